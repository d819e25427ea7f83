"""Point 13: worths."""

import random
import unittest

from pairmart.errors import BadPaper, BadSize
from pairmart.worths import (
    Search, adds, best_pairs, check_worth, check_worths, column_adds, greatest, without_column, without_row, worth_of,
)
from small import all_pairs, some_rows


def some_worths(count, seed, most=4, high=(1, 3, 9)):
    """Rows of worths of up to so many rows and columns, the same ones for the same seed."""
    chance = random.Random(seed)
    return [some_rows(chance, chance.randint(0, most), chance.randint(0, most), chance.choice(high))
            for _ in range(count)]


def most_worth(rows):
    """The greatest worth of any pairs, by trying all."""
    wide = len(rows[0]) if rows else 0
    return max(sum(rows[row][column] for row, column in enumerate(pairs) if column is not None)
               for pairs in all_pairs(len(rows), wide))


class Worths(unittest.TestCase):

    def test_check_worths(self):
        found = check_worths([[1, 2], (0, 3)])
        self.assertIsInstance(found, list)
        self.assertEqual([tuple(row) for row in found], [(1, 2), (0, 3)])
        self.assertEqual(check_worths(()), [])
        self.assertEqual([tuple(row) for row in check_worths(((), ()))], [(), ()])

    def test_what_are_no_worths_is_refused(self):
        for rows in (((1, 2), (1,)), ((1,), (1, 2)), ((), (1,)), ((1, -1),), ((0,), (-3,))):
            for refused in (check_worths, best_pairs, greatest, lambda rows: adds(rows, 0),
                            lambda rows: column_adds(rows, 0)):
                with self.assertRaises(BadSize):
                    refused(rows)

    def test_best_pairs(self):
        self.assertEqual(best_pairs(((3, 1), (2, 0), (5, 5)))[0], (0, None, 1))
        self.assertEqual(best_pairs([[1, 5, 2]])[0], (1,))
        self.assertEqual(best_pairs(((4, 3), (3, 0)))[0], (1, 0))

    def test_no_rows_no_columns_and_worths_of_nought(self):
        self.assertEqual(best_pairs(()), ((), (), ()))
        self.assertEqual(greatest([]), 0)
        self.assertIs(check_worth((), (), (), ()), True)
        self.assertEqual(best_pairs(((), ())), ((None, None), (0, 0), ()))
        self.assertIs(check_worth(((), ()), (None, None), (0, 0), ()), True)
        pairs, gains, prices = best_pairs(((0, 0), (0, 0), (0, 0)))
        self.assertEqual((gains, prices), ((0, 0, 0), (0, 0)))
        self.assertIs(check_worth(((0, 0), (0, 0), (0, 0)), pairs, gains, prices), True)

    def test_the_greatest_worth_shown_by_gains_and_prices(self):
        for rows in some_worths(300, 231):
            pairs, gains, prices = best_pairs(rows)
            wide = len(rows[0]) if rows else 0
            self.assertEqual((len(pairs), len(gains), len(prices)), (len(rows), len(rows), wide))
            self.assertIn(pairs, all_pairs(len(rows), wide))
            self.assertEqual(worth_of(rows, pairs), most_worth(rows))
            self.assertEqual(greatest(rows), most_worth(rows))
            self.assertGreaterEqual(min(gains + prices, default=0), 0)
            self.assertEqual(sum(gains) + sum(prices), most_worth(rows))
            for row, worths in enumerate(rows):
                for column, worth in enumerate(worths):
                    self.assertGreaterEqual(gains[row] + prices[column], worth)
            self.assertIs(check_worth(rows, pairs, gains, prices), True)

    def test_large_ones(self):
        chance = random.Random(232)
        for many, wide in ((25, 25), (30, 12), (12, 30)):
            rows = some_rows(chance, many, wide, 10 ** 9)
            self.assertIs(check_worth(rows, *best_pairs(rows)), True)

    def test_worth_of(self):
        rows = ((3, 1), (2, 7), (5, 5))
        self.assertEqual(worth_of(rows, (0, None, 1)), 8)
        self.assertEqual(worth_of(rows, [None, 1, 0]), 12)
        self.assertEqual(worth_of((), ()), 0)

    def test_without_row_and_column(self):
        rows = ((3, 1), (2, 7), (5, 4))
        self.assertEqual(without_row(rows, 1), [(3, 1), (5, 4)])
        self.assertEqual(without_row(((3,),), 0), [])
        self.assertEqual([tuple(row) for row in without_column(rows, 0)], [(1,), (7,), (4,)])
        self.assertEqual([tuple(row) for row in without_column(rows, 1)], [(3,), (2,), (5,)])
        self.assertIsInstance(without_column(rows, 1), list)
        self.assertEqual([tuple(row) for row in without_column(((3,), (2,)), 0)], [(), ()])

    def test_adds(self):
        rows = ((3, 1), (2, 0), (5, 5))
        self.assertEqual([adds(rows, row) for row in range(3)], [1, 0, 5])
        self.assertEqual([column_adds(rows, column) for column in range(2)], [3, 3])
        self.assertEqual((adds(((4,),), 0), column_adds(((4,),), 0)), (4, 4))
        for rows in some_worths(60, 233, most=3):
            for row in range(len(rows)):
                rest = rows[:row] + rows[row + 1:]
                self.assertEqual(adds(rows, row), most_worth(rows) - most_worth(rest))
            for column in range(len(rows[0]) if rows else 0):
                rest = tuple(worths[:column] + worths[column + 1:] for worths in rows)
                self.assertEqual(column_adds(rows, column), most_worth(rows) - most_worth(rest))


class Shown(unittest.TestCase):

    def setUp(self):
        self.rows = ((3, 1), (2, 0), (5, 5))
        self.pairs, self.gains, self.prices = (0, None, 1), (1, 0, 5), (2, 0)

    def test_the_paper_is_taken(self):
        self.assertIs(check_worth(self.rows, self.pairs, self.gains, self.prices), True)
        self.assertIs(check_worth([[3, 1], [2, 0], [5, 5]], [0, None, 1], [1, 0, 5], [2, 0]), True)

    def test_what_is_not_there_is_refused(self):
        for pairs, gains, prices in (
            ((0, None), (1, 0, 5), (2, 0)), ((0, None, 1, None), (1, 0, 5), (2, 0)), ((0, None, 2), (1, 0, 5), (2, 0)),
            ((0, None, -1), (1, 0, 5), (2, 0)), (self.pairs, (1, 0), (2, 0)), (self.pairs, (1, 0, 5, 0), (2, 0)),
            (self.pairs, (1, 0, 5), (2,)), (self.pairs, (1, 0, 5), (2, 0, 0)), ((), (), ()),
        ):
            with self.assertRaises(BadPaper):
                check_worth(self.rows, pairs, gains, prices)
        with self.assertRaises(BadPaper):
            check_worth((), (), (), (0,))

    def test_a_column_told_twice_is_refused(self):
        with self.assertRaises(BadPaper):
            check_worth(((2,), (2,)), (0, 0), (2, 2), (0,))
        with self.assertRaises(BadPaper):
            check_worth(((0, 0), (0, 0)), (1, 1), (0, 0), (0, 0))

    def test_below_nought_is_refused(self):
        with self.assertRaises(BadPaper):
            check_worth(((1,), (1,)), (0, None), (-1, -1), (2,))
        with self.assertRaises(BadPaper):
            check_worth(((1,),), (0,), (-1,), (2,))
        with self.assertRaises(BadPaper):
            check_worth(((1,),), (0,), (2,), (-1,))

    def test_papers_off_by_one_are_refused(self):
        for step in (1, -1):
            for place in range(3):
                gains = list(self.gains)
                gains[place] += step
                with self.assertRaises(BadPaper):
                    check_worth(self.rows, self.pairs, gains, self.prices)
            for place in range(2):
                prices = list(self.prices)
                prices[place] += step
                with self.assertRaises(BadPaper):
                    check_worth(self.rows, self.pairs, self.gains, prices)
        for pairs in ((0, 1, None), (None, 0, 1), (1, None, 0), (None, None, 1), (None, None, None)):
            with self.assertRaises(BadPaper):
                check_worth(self.rows, pairs, self.gains, self.prices)

    def test_just_when_a_paper_is_taken(self):
        taken = 0
        for rows in some_worths(12, 234, most=2, high=(2,)):
            wide = len(rows[0]) if rows else 0
            sides = [[()], [(0,), (1,), (2,)], [(one, other) for one in range(3) for other in range(3)]]
            for pairs in all_pairs(len(rows), wide):
                for gains in sides[len(rows)]:
                    for prices in sides[wide]:
                        shown = worth_of(rows, pairs) == sum(gains) + sum(prices) and all(
                            gains[row] + prices[column] >= rows[row][column]
                            for row in range(len(rows)) for column in range(wide))
                        if shown:
                            taken += 1
                            self.assertEqual(worth_of(rows, pairs), most_worth(rows))
                            self.assertIs(check_worth(rows, pairs, gains, prices), True)
                        else:
                            with self.assertRaises(BadPaper):
                                check_worth(rows, pairs, gains, prices)
        self.assertGreater(taken, 20)


class Searching(unittest.TestCase):

    def held(self, search, rows):
        """That costs are no less than both sides' prices, and just those of who has which column."""
        for row in range(rows):
            for column in range(search.wide):
                both = search.left[row] + search.right[column]
                self.assertLessEqual(both, search.costs[row][column])
                if search.owner[column] == row:
                    self.assertEqual(both, search.costs[row][column])
        self.assertEqual(sorted(row for row in search.owner if row is not None), list(range(rows)))

    def test_fields(self):
        search = Search([(3, 1), (2, 0)])
        self.assertEqual((search.many, search.wide), (2, 2))
        self.assertEqual(search.owner, [None, None])
        self.assertEqual((len(search.costs), len(search.left), len(search.right)), (2, 2, 2))

    def test_put_in(self):
        for rows in some_worths(60, 235):
            search = Search(rows)
            for row in range(len(rows)):
                self.assertIsNone(search.put_in(row))
                self.held(search, row + 1)

    def test_look_takes_only_cheaper_ways(self):
        search = Search([(3, 1), (2, 0)])
        best, came = [None, None], [None, None]
        search.look(0, None, [False, False], best, came)
        self.assertEqual((best[1] - best[0], came), (2, [None, None]))
        lower = [best[0] - 1, best[1] + 1]
        search.look(0, 1, [False, False], lower, came)
        self.assertEqual((lower, came), ([best[0] - 1, best[1]], [None, 1]))
        search.look(0, 1, [True, False], [None, None], came)
        untouched = [None, None]
        search.look(0, 1, [True, True], untouched, came)
        self.assertEqual(untouched, [None, None])

    def test_shift(self):
        search = Search([(3, 1), (2, 0)])
        search.owner[1] = 0
        left, right = list(search.left), list(search.right)
        best = [7, 9]
        self.assertIsNone(search.shift(1, [False, True], best, 4))
        self.assertEqual(search.left, [left[0] + 4, left[1] + 4])
        self.assertEqual(search.right, [right[0], right[1] - 4])
        self.assertEqual(best, [3, 9])


if __name__ == "__main__":
    unittest.main()
