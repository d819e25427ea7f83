"""Point 18: draws."""

import random
import unittest
from fractions import Fraction
from math import lcm

from pairmart.draws import added, check_square, common, drawn, given_by, parted, to_square
from pairmart.eatings import NONE, shares
from pairmart.errors import BadSize
from small import some_list


def some_squares(count, seed, most=5):
    """Squares of one sum along and down: whole lots with weights, added up."""
    chance = random.Random(seed)
    found = []
    for _ in range(count):
        many = chance.randint(0, most)
        square = [[0] * many for _ in range(many)]
        for _ in range(chance.randint(0, 4)):
            weight = chance.randint(1, 5)
            for row, column in enumerate(chance.sample(range(many), many)):
                square[row][column] += weight
        found.append(tuple(map(tuple, square)))
    return found


class Squares(unittest.TestCase):

    def test_check_square(self):
        found = check_square([[1, 2], [2, 1]])
        self.assertIsInstance(found, list)
        self.assertEqual([tuple(row) for row in found], [(1, 2), (2, 1)])
        self.assertEqual(check_square(()), [])
        self.assertEqual([tuple(row) for row in check_square(((0, 0), (0, 0)))], [(0, 0), (0, 0)])

    def test_what_is_no_square_is_refused(self):
        for rows in (((1, 2),), ((1,), (1,)), ((1, 2), (2,)), ((1, 0, 0), (0, 1, 0)), ((2, -1), (-1, 2)), ((),)):
            for refused in (check_square, parted):
                with self.assertRaises(BadSize):
                    refused(rows)

    def test_unlike_sums_are_refused(self):
        for rows in (((1, 2), (2, 2)), ((1, 0), (1, 0)), ((1, 1), (0, 0)), ((1, 2), (1, 2)), ((0, 0), (0, 1))):
            for refused in (check_square, parted):
                with self.assertRaises(BadSize):
                    refused(rows)

    def test_parted(self):
        self.assertEqual(parted(((3,),)), ((3, (0,)),))
        self.assertEqual(sorted(parted([[1, 2], [2, 1]])), [(1, (0, 1)), (2, (1, 0))])
        self.assertEqual(parted(((0, 4), (4, 0))), ((4, (1, 0)),))

    def test_nothing_to_part(self):
        self.assertEqual((parted(()), added((), 0)), ((), ()))
        self.assertEqual(parted(((0, 0), (0, 0))), ())
        self.assertEqual(added((), 2), ((0, 0), (0, 0)))

    def test_parted_into_whole_lots_that_add_up(self):
        for square in some_squares(120, 281):
            lots = parted(square)
            left = [list(row) for row in square]
            for weight, lot in lots:
                self.assertEqual(sorted(lot), list(range(len(square))))
                # The weight is the least part of the lot that is left.
                self.assertEqual(weight, min(row[column] for row, column in zip(left, lot)))
                self.assertGreaterEqual(weight, 1)
                for row, column in zip(left, lot):
                    row[column] -= weight
            self.assertEqual(left, [[0] * len(square) for _ in square])
            self.assertEqual(added(lots, len(square)), square)

    def test_added(self):
        self.assertEqual(added(((1, (0, 1)), (2, (1, 0))), 2), ((1, 2), (2, 1)))
        self.assertEqual(added([[3, [0, 1]]], 2), ((3, 0), (0, 3)))

    def test_drawn(self):
        lots = ((1, (0, 1)), (2, (1, 0)))
        self.assertEqual([drawn(lots, number) for number in range(3)], [(0, 1), (1, 0), (1, 0)])
        self.assertEqual(drawn([[1, [0, 1]]], 0), (0, 1))
        for number in (3, 4, 99):
            with self.assertRaises(BadSize):
                drawn(lots, number)
        with self.assertRaises(BadSize):
            drawn((), 0)

    def test_each_lot_is_drawn_by_as_many_numbers_as_its_weight(self):
        for square in some_squares(60, 282):
            lots = parted(square)
            drawn_ones = [drawn(lots, number) for number in range(sum(weight for weight, _ in lots))]
            self.assertEqual(drawn_ones, [lot for weight, lot in lots for _ in range(weight)])

    def test_common(self):
        for one, other, both in ((12, 18, 6), (7, 5, 1), (0, 4, 4), (4, 0, 4), (1, 1, 1)):
            self.assertEqual(common(one, other), both)


class FromChances(unittest.TestCase):

    def test_to_square(self):
        self.assertEqual(to_square((((1, 2), (1, 3)),), 2), (6, (
            (3, 2, 1),
            (3, 0, 3),
            (0, 4, 2),
        )))
        self.assertEqual(to_square(((NONE, (1, 1)), ((1, 1), NONE)), 2), (1, (
            (0, 1, 0, 0),
            (1, 0, 0, 0),
            (0, 0, 0, 1),
            (0, 0, 1, 0),
        )))

    def test_the_low_is_the_least_that_all_lows_go_into(self):
        self.assertEqual(to_square((((1, 4), (1, 6)),), 2)[0], 12)
        self.assertEqual(to_square((((1, 4),), ((1, 2),)), 1)[0], 4)
        self.assertEqual(to_square(((NONE,),), 1), (1, ((0, 1), (1, 0))))

    def test_nobody_and_nothing(self):
        self.assertEqual(to_square((), 0), (1, ()))
        self.assertEqual(to_square((), 2), (1, ((1, 0), (0, 1))))
        self.assertEqual(to_square(((), ()), 0), (1, ((1, 0), (0, 1))))

    def test_what_is_shared_is_drawn_by_sure_lots(self):
        chance = random.Random(283)
        for _ in range(60):
            many, things = chance.randint(0, 4), chance.randint(0, 4)
            rows = shares(tuple(some_list(chance, things) for _ in range(many)), things)
            low, square = to_square(rows, things)
            self.assertEqual(low, lcm(1, *[parts for row in rows for _, parts in row]))
            self.assertEqual(len(square), many + things)
            self.assertEqual({sum(row) for row in square} | {sum(column) for column in zip(*square)},
                             {low} if square else set())
            for one in range(many):
                self.assertEqual(square[one][:things], tuple(Fraction(*part) * low for part in rows[one]))
                self.assertEqual([column for column in range(things, many + things) if square[one][column]],
                                 [things + one] if sum(Fraction(*part) for part in rows[one]) < 1 else [])
            for thing in range(things):
                row = square[many + thing]
                self.assertEqual(row[things:], tuple(square[one][thing] for one in range(many)))
                self.assertEqual(sum(row[:things]), row[thing])
            counts = [[0] * things for _ in range(many)]
            lots = parted(square)
            for number in range(low if square else 0):
                got = given_by(drawn(lots, number), many, things)
                self.assertEqual(len(got), many)
                for one, thing in enumerate(got):
                    if thing is not None:
                        counts[one][thing] += 1
            self.assertEqual(counts, [list(row[:things]) for row in square[:many]])

    def test_given_by(self):
        self.assertEqual(given_by((2, 0, 1, 3), 2, 2), (None, 0))
        self.assertEqual(given_by([0, 1], 2, 2), (0, 1))
        self.assertEqual(given_by((1, 0), 1, 1), (None,))
        self.assertEqual(given_by((), 0, 0), ())


if __name__ == "__main__":
    unittest.main()
