"""Point 17: eating."""

import random
import unittest
from fractions import Fraction
from itertools import permutations

from pairmart.eatings import (
    NONE, Meal, Part, as_much, is_tight, shared, shares, sums_down, times, wanted_more, whole_of,
)
from pairmart.errors import BadSize, BadWish
from small import some_list


def small(number):
    """A fraction as (top, low)."""
    return (number.numerator, number.denominator)


def some_lists(count, seed, most=4):
    """(lists, how many things), the same ones for the same seed."""
    chance = random.Random(seed)
    found = []
    for _ in range(count):
        many, things = chance.randint(0, most), chance.randint(0, most)
        found.append((tuple(some_list(chance, things) for _ in range(many)), things))
    return found


def some_chances(chance, many, things):
    """Rows of chances of which none adds up to more than the whole, some of them none."""
    rows = []
    for _ in range(many):
        parts = [chance.choice((0, 0, 1, 2, 3)) for _ in range(things)]
        whole = sum(parts) + chance.randint(1, 3)
        rows.append(tuple(small(Fraction(part, whole)) for part in parts))
    return tuple(rows)


def eaten(lists, things):
    """(chances, times) of eating, by fractions of the time."""
    left = [Fraction(1)] * things
    had = [[Fraction(0)] * things for _ in lists]
    clock, steps = Fraction(0), []
    while clock < 1:
        eats = {one: next((thing for thing in order if left[thing]), None) for one, order in enumerate(lists)}
        eats = {one: thing for one, thing in eats.items() if thing is not None}
        if not eats:
            break
        step = min([1 - clock] + [left[thing] / list(eats.values()).count(thing) for thing in eats.values()])
        for one, thing in eats.items():
            had[one][thing] += step
            left[thing] -= step
        clock += step
        steps.append(small(clock))
    return tuple(tuple(small(part) for part in row) for row in had), tuple(steps)


class Parts(unittest.TestCase):

    def test_shared(self):
        for one, other, both in ((12, 18, 6), (7, 5, 1), (0, 4, 4), (4, 0, 4), (1, 1, 1), (9, 3, 3)):
            self.assertEqual(shared(one, other), both)

    def test_parts_are_made_small(self):
        for top, low, shown in ((6, 4, (3, 2)), (0, 5, (0, 1)), (1, 1, (1, 1)), (2, -4, (-1, 2)), (-3, -9, (1, 3)),
                                (0, -7, (0, 1)), (10, 5, (2, 1))):
            part = Part(top, low)
            self.assertEqual(part.shown(), shown)
            self.assertEqual((part.top, part.low), shown)

    def test_no_parts_are_refused(self):
        for top in (0, 1, -2):
            with self.assertRaises(BadSize):
                Part(top, 0)
        with self.assertRaises(BadSize):
            Part(1, 2).over(0)

    def test_sums(self):
        half, third = Part(1, 2), Part(2, 6)
        self.assertEqual(half.plus(third).shown(), (5, 6))
        self.assertEqual(half.minus(third).shown(), (1, 6))
        self.assertEqual(third.minus(half).shown(), (-1, 6))
        self.assertEqual(half.minus(half).shown(), NONE)
        self.assertEqual(half.over(3).shown(), (1, 6))
        self.assertEqual(Part(4, 3).over(2).shown(), (2, 3))
        self.assertEqual((half.shown(), third.shown()), ((1, 2), (1, 3)))

    def test_below(self):
        self.assertIs(Part(1, 3).below(Part(1, 2)), True)
        self.assertIs(Part(1, 2).below(Part(1, 3)), False)
        self.assertIs(Part(1, 2).below(Part(2, 4)), False)
        self.assertIs(Part(0, 1).below(Part(1, 9)), True)
        self.assertIs(Part(-1, 2).below(Part(0, 1)), True)

    def test_none(self):
        self.assertEqual(NONE, (0, 1))


class Meals(unittest.TestCase):

    def test_fields(self):
        meal = Meal([[0, 1], ()], 2)
        self.assertEqual(meal.lists, ((0, 1), ()))
        self.assertEqual([part.shown() for part in meal.left], [(1, 1), (1, 1)])
        self.assertEqual([[part.shown() for part in row] for row in meal.had], [[NONE, NONE], [NONE, NONE]])
        self.assertEqual((meal.clock.shown(), list(meal.steps)), (NONE, []))

    def test_lists_that_cannot_be_are_refused(self):
        for lists, many in ((((0, 0),), 2), (((2,),), 2), (((-1,),), 2), (((0,),), 0)):
            for refused in (Meal, shares, times):
                with self.assertRaises(BadWish):
                    refused(lists, many)

    def test_eat(self):
        meal = Meal(((0, 1), (0, 1), (1,)), 2)
        self.assertEqual([meal.bite(one) for one in range(3)], [0, 0, 1])
        self.assertEqual({thing: list(ones) for thing, ones in meal.eaters().items()}, {0: [0, 1], 1: [2]})
        self.assertIs(meal.eat(), True)
        self.assertEqual([part.shown() for part in meal.left], [NONE, (1, 2)])
        self.assertEqual(meal.clock.shown(), (1, 2))
        self.assertEqual([meal.bite(one) for one in range(3)], [1, 1, 1])
        self.assertEqual([part.shown() for part in meal.had[2]], [NONE, (1, 2)])
        self.assertIs(meal.eat(), True)
        self.assertEqual(meal.clock.shown(), (2, 3))
        self.assertEqual([meal.bite(one) for one in range(3)], [None, None, None])
        self.assertEqual(meal.eaters(), {})
        self.assertIs(meal.eat(), False)
        self.assertEqual([tuple(step) for step in meal.steps], [(1, 2), (2, 3)])

    def test_nothing_is_eaten_when_the_time_is_over(self):
        meal = Meal(((0, 1),), 2)
        self.assertIs(meal.eat(), True)
        self.assertEqual((meal.clock.shown(), meal.bite(0)), ((1, 1), 1))
        self.assertIs(meal.eat(), False)
        self.assertEqual([part.shown() for part in meal.had[0]], [(1, 1), NONE])

    def test_shares(self):
        self.assertEqual(shares(((0, 1), (0, 1)), 2), (((1, 2), (1, 2)), ((1, 2), (1, 2))))
        self.assertEqual(shares([[0, 1], [1, 0]], 2), (((1, 1), NONE), (NONE, (1, 1))))
        self.assertEqual(shares(((0, 1, 2), (0, 2, 1), (1, 0, 2)), 3),
                         (((1, 2), (1, 4), (1, 4)), ((1, 2), NONE, (1, 2)), (NONE, (3, 4), (1, 4))))

    def test_more_eaters_than_things_and_fewer(self):
        self.assertEqual(shares(((0,), (0,), (0,)), 1), (((1, 3),),) * 3)
        self.assertEqual(times(((0,), (0,), (0,)), 1), ((1, 3),))
        self.assertEqual(shares(((2, 1),), 3), ((NONE, NONE, (1, 1)),))
        self.assertEqual(times(((2, 1),), 3), ((1, 1),))

    def test_nobody_nothing_and_bare_lists(self):
        self.assertEqual((shares((), 0), times((), 0)), ((), ()))
        self.assertEqual((shares((), 3), times((), 3)), ((), ()))
        self.assertEqual((shares(((), ()), 0), times(((), ()), 0)), (((), ()), ()))
        self.assertEqual((shares(((), (1,)), 2), times(((), (1,)), 2)), (((NONE, NONE), (NONE, (1, 1))), ((1, 1),)))
        self.assertEqual(times(((),), 1), ())

    def test_times(self):
        self.assertEqual(times(((0, 1), (0, 1)), 2), ((1, 2), (1, 1)))
        # Things 0 and 1 are eaten up at once: that is told once.
        self.assertEqual(times(((0, 2), (0, 2), (1, 2), (1, 2)), 3), ((1, 2), (3, 4)))
        self.assertEqual(times(((0,), (1,)), 2), ((1, 1),))

    def test_by_fractions(self):
        for lists, things in some_lists(300, 271, most=5):
            rows, steps = eaten(lists, things)
            self.assertEqual(shares(lists, things), rows)
            self.assertEqual(times(lists, things), steps)

    def test_what_is_shared_is_tight_and_nobody_would_rather_have_anothers(self):
        for lists, things in some_lists(80, 272):
            rows = shares(lists, things)
            self.assertIs(is_tight(lists, rows), True)
            for one, order in enumerate(lists):
                self.assertTrue(all(as_much(order, rows[one], other) for other in rows))


class Rows(unittest.TestCase):

    def test_sums_down(self):
        row = ((1, 6), (1, 2), (1, 3))
        self.assertEqual(sums_down((1, 2, 0), row), ((1, 2), (5, 6), (1, 1)))
        self.assertEqual(sums_down([2], row), ((1, 3),))
        self.assertEqual(sums_down((), row), ())
        self.assertEqual(sums_down((0, 1), ((0, 4), (2, 4))), (NONE, (1, 2)))

    def test_as_much(self):
        order = (1, 0, 2)
        self.assertIs(as_much(order, ((1, 2), (1, 2), NONE), ((1, 2), (1, 4), (1, 4))), True)
        self.assertIs(as_much(order, ((1, 2), (1, 4), (1, 4)), ((1, 2), (1, 2), NONE)), False)
        self.assertIs(as_much(order, (NONE, (1, 2), (1, 2)), ((1, 2), (1, 4), (1, 4))), False)
        self.assertIs(as_much(order, ((1, 2), (1, 4), (1, 4)), (NONE, (1, 2), (1, 2))), False)
        self.assertIs(as_much(order, ((1, 2), (1, 2), NONE), ((2, 4), (1, 2), NONE)), True)
        self.assertIs(as_much((), (), ()), True)
        self.assertIs(as_much((0,), (NONE, NONE), (NONE, (1, 1))), True)

    def test_as_much_by_fractions(self):
        chance = random.Random(273)
        both = [0, 0]
        for _ in range(200):
            order = some_list(chance, 3)
            one, other = some_chances(chance, 2, 3)
            expected = all(sum(Fraction(*one[thing]) for thing in order[:length])
                           >= sum(Fraction(*other[thing]) for thing in order[:length])
                           for length in range(len(order) + 1))
            both[expected] += 1
            self.assertIs(as_much(order, one, other), expected)
        self.assertGreater(min(both), 30)

    def test_wanted_more(self):
        rows = (((1, 2), (1, 2), NONE), (NONE, (1, 2), (1, 2)))
        self.assertEqual(wanted_more(((0, 1, 2), (2, 0, 1)), rows), ((0, 1), (2, 1)))
        self.assertEqual(wanted_more([[2, 1, 0], [2]], rows), ((1, 0), (2, 0), (2, 1)))
        self.assertEqual(wanted_more((), ()), ())
        self.assertEqual(wanted_more(((0, 1),), ((NONE, (0, 3)),)), ())

    def test_a_ring_of_things_is_not_tight(self):
        # Each has a half of both, and would rather have the other thing than one of them.
        half = ((1, 2), (1, 2))
        self.assertIs(is_tight(((0, 1), (1, 0)), (half, half)), False)
        self.assertIs(is_tight(((0, 1), (0, 1)), (half, half)), True)
        self.assertIs(is_tight(((0, 1), (1, 0)), ((NONE, (1, 1)), ((1, 1), NONE))), False)
        self.assertIs(is_tight(((0, 1, 2), (1, 2, 0), (2, 0, 1)),
                               ((NONE, (1, 1), NONE), (NONE, NONE, (1, 1)), ((1, 1), NONE, NONE))), False)
        self.assertIs(is_tight((), ()), True)

    def test_wanted_more_and_tight_by_all_rings(self):
        chance = random.Random(274)
        both = [0, 0]
        for _ in range(250):
            many, things = chance.randint(0, 3), chance.randint(0, 4)
            lists = tuple(some_list(chance, things) for _ in range(many))
            rows = some_chances(chance, many, things)
            pairs = {(better, worse) for order, row in zip(lists, rows) for worse in range(things)
                     for better in order if row[worse] != NONE
                     and (worse not in order or order.index(better) < order.index(worse))}
            self.assertEqual(wanted_more(lists, rows), tuple(sorted(pairs)))
            rings = [ring for length in range(2, things + 1) for ring in permutations(range(things), length)
                     if all(pair in pairs for pair in zip(ring, ring[1:] + ring[:1]))]
            both[rings == []] += 1
            self.assertIs(is_tight(lists, rows), rings == [])
        self.assertGreater(min(both), 30)

    def test_whole_of(self):
        rows = (((1, 2), (1, 3)), (NONE, (1, 3)), ((1, 4), (1, 3)))
        self.assertEqual([whole_of(rows, thing) for thing in range(2)], [(3, 4), (1, 1)])
        self.assertEqual(whole_of((), 0), NONE)
        self.assertEqual(whole_of((((2, 4),),), 0), (1, 2))

    def test_chances_that_are_none_are_refused(self):
        bad = (1, 0)
        for refused in (lambda: sums_down((0,), (bad,)), lambda: as_much((0,), (bad,), ((1, 2),)),
                        lambda: as_much((0,), ((1, 2),), (bad,)), lambda: whole_of(((bad,),), 0)):
            with self.assertRaises(BadSize):
                refused()


if __name__ == "__main__":
    unittest.main()
