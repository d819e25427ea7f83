"""Point 19: goods."""

import random
import unittest
from itertools import product

from pairmart.errors import BadSize
from pairmart.goods import (
    all_given, but_one, check_rows, enviers, envies, fair_part, in_rounds, is_calm, least_worth, passed, put_on,
    ring_of, share, worth,
)
from small import some_rows


def some_goods(count, seed, most=4, things=5, high=(1, 3, 9)):
    """Rows of worths, the same ones for the same seed."""
    chance = random.Random(seed)
    return [some_rows(chance, chance.randint(0, most), chance.randint(0, things), chance.choice(high))
            for _ in range(count)]


def some_lots(chance, many, things):
    """All things given to so many by chance."""
    lots = [[] for _ in range(many)]
    for thing in range(things if many else 0):
        chance.choice(lots).append(thing)
    return tuple(map(tuple, lots))


def envy_left(row, mine, theirs):
    """Whether one would rather have a lot whichever one thing is taken from it."""
    own = sum(row[thing] for thing in mine)
    whole = sum(row[thing] for thing in theirs)
    return whole > own and all(whole - row[thing] > own for thing in theirs)


class Envy(unittest.TestCase):

    def setUp(self):
        self.rows = ((5, 1, 3), (2, 2, 2), (0, 4, 1))
        self.lots = ((1,), (0, 2), ())

    def test_check_rows(self):
        found = check_rows([[1, 2], (0, 3)])
        self.assertIsInstance(found, list)
        self.assertEqual([tuple(row) for row in found], [(1, 2), (0, 3)])
        self.assertEqual(check_rows(()), [])
        self.assertEqual([tuple(row) for row in check_rows(((), ()))], [(), ()])

    def test_rows_that_are_none_are_refused(self):
        for rows in (((1, 2), (1,)), ((1,), (1, 2)), ((1, -1),), ((), (0,))):
            for refused in (check_rows, share, lambda rows: in_rounds(rows, (0,))):
                with self.assertRaises(BadSize):
                    refused(rows)

    def test_worth(self):
        self.assertEqual([worth((5, 1, 3), things) for things in ((), (0,), [0, 2], (2, 1, 0))], [0, 5, 8, 9])

    def test_envies(self):
        found = [(one, other) for one in range(3) for other in range(3) if envies(self.rows, self.lots, one, other)]
        self.assertEqual(found, [(0, 1), (2, 0), (2, 1)])
        self.assertIs(envies(self.rows, self.lots, 1, 0), False)
        self.assertIs(envies(((2, 2),) * 2, ((0,), (1,)), 0, 1), False)

    def test_is_calm(self):
        self.assertIs(is_calm(self.rows, self.lots), False)
        self.assertIs(is_calm(((2, 2),) * 2, ((0,), (1,))), True)
        self.assertIs(is_calm(((0, 0),) * 2, [[], [0, 1]]), True)
        self.assertIs(is_calm((), ()), True)

    def test_but_one(self):
        self.assertIs(but_one(self.rows, self.lots), False)
        self.assertIs(but_one(((2, 2, 2),) * 2, ((0,), (1, 2))), True)
        self.assertIs(but_one(((2, 2, 3),) * 2, ((), (1,))), True)
        self.assertIs(but_one(((2, 1, 1),) * 2, ((0,), (1, 2))), True)
        self.assertIs(but_one(((2, 2, 1),) * 2, ((2,), (0, 1))), False)
        self.assertIs(but_one(((1, 1, 0),) * 2, ((), (0, 1))), False)
        self.assertIs(but_one(((1, 0, 0),) * 2, ((), (0, 1, 2))), True)
        self.assertIs(but_one((), ()), True)

    def test_calm_and_but_one_by_the_words(self):
        chance = random.Random(291)
        seen = set()
        for rows in some_goods(200, 292):
            lots = some_lots(chance, len(rows), len(rows[0]) if rows else 0)
            calm = all(worth(row, lots[one]) >= worth(row, other) for one, row in enumerate(rows) for other in lots)
            nearly = not any(envy_left(row, lots[one], other) for one, row in enumerate(rows) for other in lots)
            seen.add((calm, nearly))
            self.assertIs(is_calm(rows, lots), calm)
            self.assertIs(but_one(rows, lots), nearly)
        self.assertEqual(seen, {(True, True), (False, True), (False, False)})

    def test_enviers(self):
        self.assertEqual(enviers(self.rows, self.lots), [2, 0, None])
        self.assertEqual(enviers(((1, 1),) * 3, ((0, 1), (), ())), [1, None, None])
        self.assertEqual(enviers((), ()), [])


class Rings(unittest.TestCase):

    def test_ring_of(self):
        for backs, ones in (((1, 2, 0), {0, 1, 2}), ([1, 0], {0, 1}), ((2, 0, 1), {0, 1, 2}), ((1, 2, 1), {1, 2}),
                            ((3, 0, 0, 2), {0, 2, 3})):
            ring = ring_of(backs)
            self.assertEqual((set(ring), len(ring)), (ones, len(ones)))
            for one, after in zip(ring, ring[1:] + ring[:1]):
                self.assertEqual(backs[after], one)

    def test_passed(self):
        lots = ((0,), (1,), (2, 3))
        self.assertEqual(passed(lots, (0, 2)), [(2, 3), (1,), (0,)])
        self.assertEqual(passed(lots, [0, 1, 2]), [(1,), (2, 3), (0,)])
        self.assertEqual(passed(lots, ()), [(0,), (1,), (2, 3)])
        kept = [(0,), (1,)]
        self.assertEqual((passed(kept, (0, 1)), kept), ([(1,), (0,)], [(0,), (1,)]))


class Sharing(unittest.TestCase):

    def test_share(self):
        self.assertEqual(share(((5, 4, 3), (5, 1, 1))), ((0,), (1, 2)))
        self.assertEqual(share([[1, 1, 1], [1, 1, 1]]), ((0, 2), (1,)))
        self.assertEqual(share(((1, 2, 3),)), ((0, 1, 2),))

    def test_nobody_nothing_and_things_of_no_worth(self):
        self.assertEqual(share(()), ())
        self.assertEqual(share(((), ())), ((), ()))
        self.assertEqual(share(((0, 0), (0, 0))), ((0, 1), ()))
        self.assertEqual(share(((0, 3), (2, 0))), ((0,), (1,)))

    def test_where_all_are_envied_lots_go_round(self):
        # 0 has thing 0, which 1 would rather have, 1 has thing 1, which 0 would rather have.
        self.assertEqual(share(((1, 3, 0), (3, 2, 0))), ((1, 2), (0,)))
        # Of three who each envy the next, all get what they would rather have.
        self.assertEqual(share(((1, 2, 0, 1), (0, 1, 2, 1), (2, 0, 1, 1))), ((1, 3), (2,), (0,)))

    def test_no_envy_is_left_but_by_one_thing(self):
        for rows in some_goods(200, 293, things=7):
            lots = share(rows)
            self.assertEqual(len(lots), len(rows))
            self.assertIs(all_given(rows, lots), True)
            self.assertEqual(lots, tuple(tuple(sorted(lot)) for lot in lots))
            self.assertIs(but_one(rows, lots), True)
            self.assertFalse(any(envy_left(row, lots[one], other) for one, row in enumerate(rows) for other in lots))

    def test_each_thing_goes_to_the_first_whom_nobody_envies(self):
        passings = 0
        for rows in some_goods(500, 294, things=6, high=(4, 9)):
            before = ((),) * len(rows)
            for thing in range(len(rows[0]) if rows else 0):
                lots = share([row[:thing + 1] for row in rows])
                rest = tuple(tuple(had for had in lot if had != thing) for lot in lots)
                if None in enviers(rows, before):
                    self.assertEqual(rest, before)
                else:
                    passings += 1
                    self.assertEqual(sorted(rest), sorted(before))
                    for one, row in enumerate(rows):
                        self.assertGreaterEqual(worth(row, rest[one]), worth(row, before[one]))
                self.assertIn(thing, lots[enviers(rows, rest).index(None)])
                before = lots
        self.assertGreater(passings, 20)

    def test_in_rounds(self):
        rows = ((5, 4, 3, 2), (5, 4, 3, 2))
        self.assertEqual(in_rounds(rows, (0, 1)), ((0, 2), (1, 3)))
        self.assertEqual(in_rounds(rows, [1, 0]), ((1, 3), (0, 2)))
        self.assertEqual(in_rounds(((0, 0, 1), (1, 1, 1)), (0, 1)), ((1, 2), (0,)))
        self.assertEqual(in_rounds(((1, 1), (1, 1), (1, 1)), (2, 0, 1)), ((1,), (), (0,)))
        self.assertEqual(in_rounds(rows, (0, 1, 1, 0)), ((0, 3), (1, 2)))
        self.assertEqual(in_rounds(((2, 1), (2, 1)), (1,)), ((), (0, 1)))
        self.assertEqual(in_rounds(((2, 1), (2, 1)), ()), ((), ()))
        self.assertEqual((in_rounds((), ()), in_rounds(((), ()), (0, 1))), ((), ((), ())))

    def test_turns_leave_no_envy_but_by_one_thing(self):
        chance = random.Random(295)
        for rows in some_goods(100, 296, things=7):
            lots = in_rounds(rows, chance.sample(range(len(rows)), len(rows)))
            self.assertIs(all_given(rows, lots), True)
            self.assertIs(but_one(rows, lots), True)

    def test_all_given(self):
        rows = ((1, 1, 1), (1, 1, 1))
        for lots, expected in ((((0, 2), (1,)), True), ([[1], [2, 0]], True), (((), (2, 1, 0)), True),
                               (((0, 2), ()), False), (((0, 2), (1, 0)), False), (((0, 2), (1, 3)), False),
                               (((0, 2), (-2,)), False), (((0, 0), (1, 2)), False), ((), False)):
            self.assertIs(all_given(rows, lots), expected)
        self.assertIs(all_given((), ()), True)
        self.assertIs(all_given(((), ()), ((), ())), True)

    def test_least_worth(self):
        self.assertEqual(least_worth(((5, 1, 3), (2, 2, 2)), ((0,), (1, 2))), 4)
        self.assertEqual(least_worth(((5, 1, 3), (2, 2, 2)), ((0, 1, 2), ())), 0)
        self.assertEqual(least_worth((), ()), 0)


class SureOnes(unittest.TestCase):

    def test_put_on(self):
        self.assertEqual(put_on((1, 2, 3), 1, 4), (1, 6, 3))
        self.assertEqual(put_on([0], 0, 0), (0,))

    def test_fair_part(self):
        self.assertEqual(fair_part(((5, 4, 3, 2, 2), (0,) * 5), 0), 8)
        self.assertEqual(fair_part(((5, 4, 3, 2, 2), (0,) * 5), 1), 0)
        self.assertEqual(fair_part(((5, 4),), 0), 9)
        self.assertEqual(fair_part(((5, 4), (1, 1), (1, 1)), 0), 0)
        self.assertEqual(fair_part(((),), 0), 0)

    def test_it_is_the_most_by_trying_all_lots(self):
        for rows in some_goods(80, 297, most=3, things=5):
            for one, row in enumerate(rows):
                best = max(min(sum(much for much, at in zip(row, way) if at == place) for place in range(len(rows)))
                           for way in product(range(len(rows)), repeat=len(row)))
                self.assertEqual(fair_part(rows, one), best)

    def test_up_to_six_things(self):
        self.assertEqual(fair_part(((1,) * 6,) * 3, 2), 2)
        for many in (7, 8):
            with self.assertRaises(BadSize):
                fair_part(((1,) * many,) * 3, 0)


if __name__ == "__main__":
    unittest.main()
