"""Point 14: prices."""

import random
import unittest
from itertools import product

from pairmart.covers import Links
from pairmart.errors import BadPaper, BadSize
from pairmart.prices import (
    are_content, can_be_content, check_least, gain_by, higher_of, least_prices, lower_of, may_have, over_wanted, rise,
    things_of, wanted_at,
)
from small import all_pairs, some_rows


def some_sales(count, seed, most=3, high=(1, 3, 4)):
    """Rows of buyers' worths, the same ones for the same seed."""
    chance = random.Random(seed)
    return [some_rows(chance, chance.randint(0, most), chance.randint(1, most), chance.choice(high))
            for _ in range(count)]


def gain(worths, prices, thing):
    """What a buyer gains by a thing, or by none."""
    return 0 if thing is None else worths[thing] - prices[thing]


def content(rows, prices, pairs):
    """Whether all are content, by the document's words."""
    best = all(gain(row, prices, thing) == max([0] + [gain(row, prices, other) for other in range(len(prices))])
               for row, thing in zip(rows, pairs))
    return best and all(price == 0 or thing in pairs for thing, price in enumerate(prices))


def content_prices(rows):
    """All prices, up to one past all worths, at which some pairs make all content."""
    wide = len(rows[0])
    high = max(max(row) for row in rows) + 1
    ways = all_pairs(len(rows), wide)
    return [prices for prices in product(range(high + 1), repeat=wide)
            if any(content(rows, prices, pairs) for pairs in ways)]


class Wanting(unittest.TestCase):

    def test_wanted_at(self):
        self.assertEqual(wanted_at((5, 3, 4), (2, 0, 1)), (0, 1, 2))
        self.assertEqual(wanted_at([5, 3, 4], [2, 1, 2]), (0,))
        self.assertEqual(wanted_at((5, 3), (6, 4)), ())
        self.assertEqual(wanted_at((), ()), ())

    def test_what_gains_nothing_is_not_wanted_but_may_be_had(self):
        self.assertEqual(wanted_at((5, 3), (5, 4)), ())
        self.assertEqual(sorted(may_have((5, 3), (5, 4)), key=str), [0, None])
        self.assertEqual(wanted_at((0,), (0,)), ())
        self.assertEqual(sorted(may_have((0,), (0,)), key=str), [0, None])

    def test_may_have(self):
        self.assertEqual(may_have((5, 3, 4), (2, 0, 1)), (0, 1, 2))
        self.assertEqual(may_have((5, 3), (6, 4)), (None,))
        self.assertEqual(may_have((), ()), (None,))
        self.assertEqual(may_have((5, 3), (4, 3)), (0,))

    def test_by_the_words(self):
        chance = random.Random(241)
        for _ in range(200):
            worths, prices = (some_rows(chance, 1, 3, 3)[0] for _ in range(2))
            best = max(gain(worths, prices, thing) for thing in range(3))
            most = tuple(thing for thing in range(3) if gain(worths, prices, thing) == best)
            self.assertEqual(wanted_at(worths, prices), most if best > 0 else ())
            expected = set(most) if best > 0 else {None, *most} if best == 0 else {None}
            self.assertEqual(set(may_have(worths, prices)), expected)


class Content(unittest.TestCase):

    def test_are_content(self):
        rows = ((5, 3), (4, 1))
        self.assertIs(are_content(rows, (2, 0), (1, 0)), True)
        self.assertIs(are_content(rows, [2, 0], [0, 1]), False)
        self.assertIs(are_content(rows, (1, 0), (1, 0)), False)
        self.assertIs(are_content(rows, (4, 2), (0, None)), False)
        self.assertIs(are_content(((5, 3), (5, 3)), (2, 0), (0, 0)), False)
        self.assertIs(are_content(((5,),), (5,), (0,)), True)
        self.assertIs(are_content(((5,),), (5,), (None,)), False)
        self.assertIs(are_content(((5,),), (0,), (None,)), False)

    def test_unsold_things_cost_nothing(self):
        self.assertIs(are_content(((5, 1),), (0, 0), (0,)), True)
        self.assertIs(are_content(((5, 1),), (0, 1), (0,)), False)
        self.assertIs(are_content((), (0, 0), ()), True)
        self.assertIs(are_content((), (0, 1), ()), False)
        self.assertIs(are_content((), (), ()), True)

    def test_other_lengths_and_things_that_are_not_there(self):
        for pairs in ((1,), (1, 0, None), (1, 2), (1, -2), (-1, 0), ()):
            self.assertIs(are_content(((5, 3), (4, 1)), (2, 0), pairs), False)
        for prices in ((2,), (2, 0, 0), ()):
            self.assertIs(are_content(((5, 3), (4, 1)), prices, (1, 0)), False)

    def test_by_the_words_for_all_pairs_and_prices(self):
        some = 0
        for rows in some_sales(25, 242, high=(2,)):
            wide = len(rows[0]) if rows else 1
            for prices in product(range(4), repeat=wide):
                ways = [pairs for pairs in all_pairs(len(rows), wide) if content(rows, prices, pairs)]
                some += len(ways)
                for pairs in all_pairs(len(rows), wide):
                    self.assertIs(are_content(rows, prices, pairs), pairs in ways)
                found = can_be_content(rows, prices)
                self.assertEqual(found is not None, ways != [])
                self.assertTrue(found is None or found in ways)
        self.assertGreater(some, 50)

    def test_can_be_content(self):
        self.assertEqual(can_be_content(((5, 3), (4, 1)), (2, 0)), (1, 0))
        self.assertIsNone(can_be_content(((5, 3), (4, 1)), (1, 0)))
        self.assertEqual(can_be_content((), ()), ())
        with self.assertRaises(BadSize):
            can_be_content(((5, 3), (4,)), (2, 0))


class Least(unittest.TestCase):

    def test_least_prices(self):
        self.assertEqual(least_prices(((5, 3), (4, 1))), (2, 0))
        self.assertEqual(least_prices([[5], [3], [4]]), (4,))
        self.assertEqual(least_prices(((5, 0, 0),)), (0, 0, 0))
        self.assertEqual(least_prices(((5,), (5,))), (5,))
        self.assertEqual(least_prices(()), ())
        self.assertEqual(least_prices(((), ())), ())
        self.assertEqual(least_prices(((0, 0), (0, 0))), (0, 0))

    def test_worths_that_are_none_are_refused(self):
        for rows in (((1, 2), (1,)), ((1, -1),)):
            for refused in (least_prices, rise, lambda rows: can_be_content(rows, (0, 0))):
                with self.assertRaises(BadSize):
                    refused(rows)
        for told in ((1,), (1, 2, 3), (1, -1)):
            with self.assertRaises(BadSize):
                gain_by(((1, 2), (2, 1)), 0, told)

    def test_the_least_of_all_prices_at_which_all_are_content(self):
        for rows in some_sales(60, 243):
            if rows:
                found = content_prices(rows)
                least = tuple(min(prices[thing] for prices in found) for thing in range(len(rows[0])))
                self.assertIn(least, found)
                self.assertEqual(least_prices(rows), least)

    def test_lower_and_higher(self):
        self.assertEqual(lower_of((1, 5, 2), [3, 4, 2]), (1, 4, 2))
        self.assertEqual(higher_of([1, 5, 2], (3, 4, 2)), (3, 5, 2))
        self.assertEqual((lower_of((), ()), higher_of((), ())), ((), ()))
        for rows in some_sales(10, 244, most=2):
            found = content_prices(rows) if rows else [()]
            for one, other in product(found, repeat=2):
                self.assertIn(lower_of(one, other), found)
                self.assertIn(higher_of(one, other), found)

    def test_gain_by(self):
        rows = ((5, 3), (4, 1))
        self.assertEqual(gain_by(rows, 0, (5, 3)), 3)
        self.assertEqual(gain_by(rows, 1, (4, 1)), 2)
        # By telling that thing 0 is worth nine it gets that, at what it is worth more to the other than thing 1.
        self.assertEqual(gain_by(rows, 0, (9, 3)), 2)
        self.assertEqual(gain_by(rows, 1, [0, 0]), 1)
        self.assertEqual(gain_by(((5,), (3,)), 1, (9,)), -2)
        self.assertEqual(gain_by(((5,), (3,)), 0, (1,)), 0)

    def test_gain_by_changes_no_rows(self):
        rows = [[5, 3], [4, 1]]
        gain_by(rows, 0, [9, 3])
        self.assertEqual(rows, [[5, 3], [4, 1]])

    def test_no_other_worths_gain_more(self):
        for rows in some_sales(20, 245, most=2, high=(2, 3)):
            for row in range(len(rows)):
                true = gain_by(rows, row, rows[row])
                for told in product(range(4), repeat=len(rows[row])):
                    self.assertLessEqual(gain_by(rows, row, told), true)

    def test_check_least(self):
        rows = ((5, 3), (4, 1))
        self.assertIs(check_least(rows, [2, 0], [1, 0]), True)
        for prices, pairs in (((3, 0), (1, 0)), ((1, 0), (1, 0)), ((2, 1), (1, 0)), ((2, 0), (0, 1)), ((2, 0), (1,)),
                              ((2,), (1, 0)), ((2, 0), (1, None)), ((2, 0), (None, 0)), ((2, 0, 0), (1, 0)),
                              ((2, -1), (1, 0))):
            with self.assertRaises(BadPaper):
                check_least(rows, prices, pairs)
        self.assertIs(check_least((), (), ()), True)

    def test_higher_prices_at_which_all_are_content_are_refused(self):
        rows = ((5, 3), (4, 1))
        self.assertIs(are_content(rows, (3, 0), (1, 0)), True)
        with self.assertRaises(BadPaper):
            check_least(rows, (3, 0), (1, 0))


class Rising(unittest.TestCase):

    def test_over_wanted(self):
        self.assertEqual(over_wanted(((5, 0), (3, 0)), (0, 0)), ((0, 1), (0,)))
        self.assertIsNone(over_wanted(((5, 0), (3, 0)), (3, 0)))
        self.assertIsNone(over_wanted((), ()))
        self.assertIsNone(over_wanted(((0, 0), (0, 0), (0, 0)), (0, 0)))
        # Buyer 2 may have thing 1 in place of buyer 1, who may have thing 0 in place of buyer 0.
        rows = ((4, 0, 0), (4, 4, 0), (0, 4, 0), (0, 0, 9), (0, 0, 0))
        self.assertEqual(over_wanted(rows, [0, 0, 0]), ((0, 1, 2), (0, 1)))

    def test_over_wanted_by_all_ways_to_have_what_is_wanted(self):
        some = 0
        chance = random.Random(246)
        for _ in range(150):
            rows = some_rows(chance, chance.randint(0, 4), chance.randint(1, 3), 2)
            wide = len(rows[0]) if rows else 2
            prices = some_rows(chance, 1, wide, 1)[0]
            wanted = [wanted_at(row, prices) for row in rows]
            ways = [pairs for pairs in all_pairs(len(rows), wide)
                    if all(thing is None or thing in wanted[buyer] for buyer, thing in enumerate(pairs))]
            most = max(len(pairs) - pairs.count(None) for pairs in ways)
            # Ways lead to just those who go without in one of the ways in which as many as can be have what they want.
            buyers = tuple(buyer for buyer in range(len(rows)) if wanted[buyer] and any(
                pairs[buyer] is None and len(pairs) - pairs.count(None) == most for pairs in ways))
            things = tuple(sorted({thing for buyer in buyers for thing in wanted[buyer]}))
            some += buyers != ()
            self.assertEqual(over_wanted(rows, prices), (buyers, things) if buyers else None)
        self.assertGreater(some, 30)

    def test_things_of(self):
        links = Links(((2, 0), (), (2, 1)), 3)
        self.assertEqual(things_of(links, (0, 2)), (0, 1, 2))
        self.assertEqual(things_of(links, [2]), (1, 2))
        self.assertEqual(things_of(links, (1,)), ())
        self.assertEqual(things_of(links, ()), ())

    def test_rise(self):
        self.assertEqual(rise(((5, 3), (4, 1))), ((0, 0), (1, 0), (2, 0)))
        self.assertEqual(rise([[2], [2], [1]]), ((0,), (1,), (2,)))
        self.assertEqual(rise(((1, 0), (0, 1))), ((0, 0),))
        self.assertEqual(rise(()), ((),))
        self.assertEqual(rise(((), ())), ((),))

    def test_what_is_over_wanted_rises_by_one_up_to_the_least_prices(self):
        for rows in some_sales(80, 247, most=4, high=(1, 3, 6)):
            steps = rise(rows)
            self.assertEqual(steps[0], (0,) * (len(rows[0]) if rows else 0))
            self.assertEqual(steps[-1], least_prices(rows))
            for lower, higher in zip(steps, steps[1:]):
                things = over_wanted(rows, lower)[1]
                self.assertEqual(higher, tuple(price + (thing in things) for thing, price in enumerate(lower)))
            self.assertIsNone(over_wanted(rows, steps[-1]))

    def test_too_many_steps(self):
        rows = ((5, 3), (4, 1))
        self.assertEqual(len(rise(rows, 3)), 3)
        self.assertEqual(len(rise(rows, most=4)), 3)
        for most in (2, 1):
            with self.assertRaises(BadSize):
                rise(rows, most)
        self.assertEqual(len(rise(((499,), (600,)))), 500)
        with self.assertRaises(BadSize):
            rise(((500,), (600,)))
        with self.assertRaises(BadSize):
            rise(((1000000,), (1000000,)))


if __name__ == "__main__":
    unittest.main()
