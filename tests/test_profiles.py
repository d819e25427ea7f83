"""Point 24, profiles: how many get their first, second and so on, and the givings that are best by that."""

import random
import unittest
from itertools import product

from pairmart.errors import BadSize, BadWish
from pairmart.profiles import (
    by_weights, fewest_lasts, how_many, least_sum, most_firsts, profile, reversed_profile, sum_of_places, weights,
)
from small import some_list


def some_wishes(count, seed, askers=4, things=4):
    """(lists, how many things), the same ones for the same seed; many of them want the same things."""
    chance = random.Random(seed)
    found = []
    for _ in range(count):
        many = chance.randint(0, things)
        base = some_list(chance, many)
        lists = tuple(base if chance.random() < 0.4 else some_list(chance, many)
                      for _ in range(chance.randint(0, askers)))
        found.append((lists, many))
    return found


def givings(lists):
    """All givings of listed things."""
    return [given for given in product(*[tuple(order) + (None,) for order in lists])
            if len(set(given) - {None}) == len([thing for thing in given if thing is not None])]


def counts(lists, given):
    """How many get the thing at each place of their list, by the document's words."""
    longest = max([len(order) for order in lists], default=0)
    return tuple(sum(1 for order, thing in zip(lists, given) if thing in order[place:place + 1])
                 for place in range(longest))


def places(lists, given):
    """The sum of the places of what is got."""
    return sum(order.index(thing) for order, thing in zip(lists, given) if thing is not None)


class Counts(unittest.TestCase):

    def test_profile(self):
        lists = ((0, 1, 2), (0, 2), (1,), ())
        self.assertEqual(profile(lists, (2, 0, 1, None)), (2, 0, 1))
        self.assertEqual(profile(lists, (0, 2, None, None)), (1, 1, 0))
        self.assertEqual(profile(lists, [None] * 4), (0, 0, 0))
        # What isn't listed is at no place.
        self.assertEqual(profile(lists, (3, 1, 0, 2)), (0, 0, 0))

    def test_nobody_and_bare_lists(self):
        self.assertEqual(profile((), ()), ())
        self.assertEqual(profile(((), ()), (None, None)), ())
        self.assertEqual(profile([[], [0]], [None, 0]), (1,))

    def test_each_giving(self):
        for lists, _ in some_wishes(40, 2401, askers=3):
            for given in givings(lists):
                self.assertEqual(profile(lists, given), counts(lists, given))
                self.assertEqual(sum_of_places(lists, given), places(lists, given))
                self.assertEqual(sum(profile(lists, given)), how_many(given))
                self.assertEqual(reversed_profile(lists, given),
                                 (how_many(given),) + tuple(-count for count in reversed(counts(lists, given))))

    def test_reversed_profile(self):
        lists = ((0, 1, 2), (0, 2), (1,), ())
        self.assertEqual(reversed_profile(lists, (2, 0, 1, None)), (3, -1, 0, -2))
        self.assertEqual(reversed_profile(lists, (None,) * 4), (0, 0, 0, 0))
        self.assertEqual(reversed_profile((), ()), (0,))
        self.assertEqual(reversed_profile(((),), (None,)), (0,))

    def test_sum_of_places(self):
        self.assertEqual(sum_of_places(((0, 1, 2), (0, 2), (1,)), (2, 0, None)), 2)
        self.assertEqual(sum_of_places(((0, 1, 2), (0, 2), (1,)), (1, 2, None)), 2)
        self.assertEqual(sum_of_places((), ()), 0)

    def test_how_many(self):
        self.assertEqual(how_many((None, 0, 3, None)), 2)
        self.assertEqual(how_many([0]), 1)
        self.assertEqual(how_many((None,)), 0)
        self.assertEqual(how_many(()), 0)


class Weights(unittest.TestCase):

    def test_powers(self):
        self.assertEqual(weights(4, 3, False), [1, 3, 9, 27])
        self.assertEqual(weights(4, 3, True), [27, 9, 3, 1])
        self.assertEqual(weights(1, 10, True), [1])
        self.assertEqual(weights(3, 1, False), [1, 1, 1])
        for up in (True, False):
            self.assertEqual(weights(0, 7, up), [])

    def test_great_ones(self):
        self.assertEqual(weights(40, 31, True)[0], 31 ** 39)

    def test_by_weights(self):
        lists = ((0, 1), (0, 2), (0,))
        # Both seconds and 2's first are worth more than one first alone.
        self.assertEqual(by_weights(lists, 3, [3, 2]), (1, 2, 0))
        self.assertEqual(sum([5, 0][order.index(thing)] for order, thing in zip(lists, by_weights(lists, 3, [5, 0]))
                             if thing is not None), 5)
        self.assertEqual(by_weights((), 2, []), ())
        self.assertEqual(by_weights(((), ()), 2, []), (None, None))
        self.assertEqual(by_weights(((), ()), 0, []), (None, None))

    def test_by_weights_gives_what_is_listed_alone(self):
        chance = random.Random(2402)
        for lists, many in some_wishes(120, 2403):
            weight = [chance.randint(0, 9) for _ in range(4)]
            best = max(sum(weight[order.index(thing)] for order, thing in zip(lists, given) if thing is not None)
                       for given in givings(lists))
            found = by_weights(lists, many, weight)
            self.assertIn(found, givings(lists))
            self.assertEqual(sum(weight[order.index(thing)] for order, thing in zip(lists, found)
                                 if thing is not None), best)

    def test_weights_below_nought_are_refused(self):
        with self.assertRaises(BadSize):
            by_weights(((0,),), 1, [-1])


class Best(unittest.TestCase):

    def test_the_greatest_profile(self):
        for lists, many in some_wishes(200, 2404):
            found = most_firsts(lists, many)
            self.assertIn(found, givings(lists))
            self.assertEqual(counts(lists, found), max(counts(lists, given) for given in givings(lists)))

    def test_to_the_most_with_the_fewest_lasts(self):
        for lists, many in some_wishes(200, 2405):
            found = fewest_lasts(lists, many)
            self.assertIn(found, givings(lists))
            keys = [(how_many(given), tuple(-count for count in reversed(counts(lists, given))))
                    for given in givings(lists)]
            self.assertEqual((how_many(found), reversed_profile(lists, found)[1:]), max(keys))

    def test_to_the_most_with_the_least_sum(self):
        for lists, many in some_wishes(200, 2406):
            found = least_sum(lists, many)
            self.assertIn(found, givings(lists))
            keys = [(how_many(given), -places(lists, given)) for given in givings(lists)]
            self.assertEqual((how_many(found), -places(lists, found)), max(keys))

    def test_firsts_go_ahead_of_how_many_get_something(self):
        lists = ((0,), (0, 1), (1, 2))
        self.assertEqual(profile(lists, most_firsts(lists, 3)), (2, 0))
        for way in (fewest_lasts, least_sum):
            self.assertEqual(way(lists, 3), (0, 1, 2))

    def test_fewest_lasts_go_ahead_of_the_least_sum(self):
        lists = ((0, 1), (1, 2), (3, 0, 2), (3,))
        self.assertEqual(least_sum(lists, 4), (0, 1, 2, 3))
        self.assertEqual(fewest_lasts(lists, 4), (1, 2, 0, 3))

    def test_many_of_them(self):
        # Carries from one place into another would show here: 12 askers of one mind.
        lists = (tuple(range(12)),) * 12
        for way in (most_firsts, fewest_lasts, least_sum):
            self.assertEqual(sorted(way(lists, 12)), list(range(12)))
        lists = (tuple(range(12)),) * 14
        self.assertEqual(profile(lists, fewest_lasts(lists, 12)), (1,) * 12)

    def test_nobody_bare_lists_and_nothing_to_give(self):
        for way in (most_firsts, fewest_lasts, least_sum):
            self.assertEqual(way((), 0), ())
            self.assertEqual(way((), 3), ())
            self.assertEqual(way(((), ()), 2), (None, None))
            self.assertEqual(way(((), ()), 0), (None, None))
            self.assertEqual(way([[0], []], 1), (0, None))
            self.assertEqual(how_many(way(((0,), (0,), (0,)), 1)), 1)

    def test_wrong_lists_are_refused(self):
        for way in (most_firsts, fewest_lasts, least_sum):
            for lists in (((0, 0),), ((2,),), ((-1,),), ((0,), (1, 0, 1))):
                with self.assertRaises(BadWish):
                    way(lists, 2)


if __name__ == "__main__":
    unittest.main()
