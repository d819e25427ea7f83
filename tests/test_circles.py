"""Point 11: circles."""

import random
import unittest
from itertools import permutations

from pairmart.circles import (
    all_ways, check_lists, check_paper, circle_from, exchanged_by, gains, improved, in_turn, is_firm, paper,
    power_of_two, rounds, trade, turn_for,
)
from pairmart.errors import BadWish
from small import all_lots, place, some_list


def some_lists(count, seed, most=5):
    """Rows of lists in which each of up to so many lists all, the same ones for the same seed."""
    chance = random.Random(seed)
    found = []
    for _ in range(count):
        many = chance.randint(0, most)
        found.append(tuple(tuple(chance.sample(range(many), many)) for _ in range(many)))
    return found


def first_gain(lists, got, lot):
    """The first way round a lot's own things that makes none worse and one better, by trying all."""
    for way in permutations(lot):
        places = [(place(lists[one], thing), place(lists[one], got[one])) for one, thing in zip(lot, way)]
        if all(new <= old for new, old in places) and any(new < old for new, old in places):
            return way
    return None


def all_rings(many):
    """All rings of two and more, told from their lowest on."""
    return [lot[:1] + rest for lot in all_lots(many) if len(lot) > 1 for rest in permutations(lot[1:])]


def all_papers(left):
    """All ways in which ones may go in rings, one ring after another."""
    if not left:
        return [()]
    rings = [(lot[0], *rest) for size in range(1, len(left) + 1) for lot in permutations(left, size)
             if lot[0] == min(lot) for rest in [lot[1:]]]
    return [(ring, *after) for ring in rings
            for after in all_papers(tuple(one for one in left if one not in ring))]


def shows(lists, got, rings):
    """Whether rings show a giving, by the document's words."""
    left = set(range(len(lists)))
    for ring in rings:
        for one, after in zip(ring, ring[1:] + ring[:1]):
            if got[one] != after or got[one] != min(left, key=lists[one].index):
                return False
        left -= set(ring)
    return not left


class Rounds(unittest.TestCase):

    def test_check_lists(self):
        self.assertEqual(check_lists([[1, 0], (0, 1)]), [(1, 0), (0, 1)])
        self.assertEqual(check_lists(()), [])
        self.assertEqual(check_lists(((0,),)), [(0,)])

    def test_lists_that_do_not_list_all_are_refused(self):
        for lists in (((1,), (0, 1)), ((0, 0), (0, 1)), ((0, 2), (0, 1)), ((0, -1), (0, 1)), ((0, 1, 2), (0, 1)), ((),)):
            for refused in (check_lists, rounds, trade, paper):
                with self.assertRaises(BadWish):
                    refused(lists)

    def test_circle_from(self):
        points = [2, 0, 4, 3, 2, 1]
        self.assertEqual(circle_from(points, 0), (2, 4))
        self.assertEqual(circle_from(points, 4), (2, 4))
        self.assertEqual(circle_from(points, 5), (2, 4))
        self.assertEqual(circle_from(points, 3), (3,))
        self.assertEqual(circle_from((1, 2, 0), 2), (0, 1, 2))
        self.assertEqual(circle_from((2, 0, 1), 1), (0, 2, 1))
        self.assertEqual(circle_from({7: 5, 5: 7, 9: 5}, 9), (5, 7))

    def test_rounds(self):
        lists = ((1, 0, 2, 3), (0, 1, 2, 3), (0, 3, 2, 1), (1, 2, 3, 0))
        self.assertEqual(rounds(lists), (((0, 1),), ((2, 3),)))
        self.assertEqual(rounds([[0, 1, 2], [2, 1, 0], [1, 2, 0]]), (((0,), (1, 2)),))
        self.assertEqual(rounds(((0, 1, 2), (0, 1, 2), (0, 1, 2))), (((0,),), ((1,),), ((2,),)))
        self.assertEqual(rounds(((2, 0, 1), (0, 1, 2), (1, 0, 2))), (((0, 2, 1),),))

    def test_nobody_and_one_alone(self):
        self.assertEqual((rounds(()), trade(()), paper(())), ((), (), ()))
        self.assertEqual((rounds(((0,),)), trade(((0,),)), paper(((0,),))), ((((0,),),), (0,), ((0,),)))
        self.assertIs(is_firm((), ()), True)
        self.assertIs(check_paper((), (), ()), True)
        self.assertIsNone(improved((), ()))
        self.assertIsNone(improved(((0,),), (0,)))
        self.assertEqual((in_turn((), ()), turn_for((), ())), ((), ()))

    def test_circles_of_a_round_are_of_those_left(self):
        for lists in some_lists(80, 201):
            left = set(range(len(lists)))
            for circles in rounds(lists):
                best = {one: min(left, key=lists[one].index) for one in left}
                for ring in circles:
                    self.assertEqual(ring[0], min(ring))
                    self.assertEqual([best[one] for one in ring], list(ring[1:] + ring[:1]))
                self.assertEqual([ring[0] for ring in circles], sorted(ring[0] for ring in circles))
                gone = {one for ring in circles for one in ring}
                # Whoever pointed round a circle has gone: nobody left comes back to itself by pointing.
                for one in left - gone:
                    here = one
                    for _ in left:
                        here = best[here]
                        self.assertNotEqual(here, one)
                left -= gone
            self.assertEqual(left, set())

    def test_exchanged_by(self):
        self.assertEqual(exchanged_by(((0, 2), (1,)), 3), (2, 1, 0))
        self.assertEqual(exchanged_by([[0, 1, 2]], 3), (1, 2, 0))
        self.assertEqual(exchanged_by((), 0), ())

    def test_trade(self):
        self.assertEqual(trade(((1, 0, 2, 3), (0, 1, 2, 3), (0, 3, 2, 1), (1, 2, 3, 0))), (1, 0, 3, 2))
        self.assertEqual(trade(((2, 0, 1), (0, 1, 2), (1, 0, 2))), (2, 0, 1))
        for lists in some_lists(40, 202):
            self.assertEqual(trade(lists), exchanged_by(paper(lists), len(lists)))

    def test_no_list_gets_anybody_better(self):
        for lists in some_lists(25, 203, most=4):
            got = trade(lists)
            for one, order in enumerate(lists):
                for told in permutations(order):
                    other = trade(lists[:one] + (told,) + lists[one + 1:])
                    self.assertLessEqual(place(order, got[one]), place(order, other[one]))


class Firm(unittest.TestCase):

    def test_gains(self):
        lists = ((1, 2, 0), (2, 0, 1), (0, 1, 2))
        self.assertEqual(gains(lists, (0, 1, 2), (0, 1, 2)), (0, 2, 1))
        self.assertEqual(gains(lists, (0, 2, 1), (0, 1, 2)), (1, 2, 0))
        self.assertEqual(gains(((1, 0), (0, 1)), (0, 1), [0, 1]), (1, 0))
        self.assertEqual(gains(lists, (0, 1, 2), (2, 0)), (0, 2))
        self.assertEqual(gains(lists, (0, 1, 2), (1, 2)), (2, 1))
        self.assertIsNone(gains(lists, (1, 2, 0), (0, 1, 2)))
        self.assertIsNone(gains(lists, (0, 1, 2), (1,)))
        self.assertIsNone(gains(lists, (0, 1, 2), ()))

    def test_one_by_itself_gains_where_its_own_is_better(self):
        self.assertEqual(gains(((0, 1), (0, 1)), (1, 0), (0,)), (0,))
        self.assertIs(is_firm(((0, 1), (0, 1)), (1, 0)), False)
        self.assertIs(is_firm(((0, 1), (0, 1)), (0, 1)), True)

    def test_the_first_way_in_order(self):
        # All but asker 0 have their worst: two ways get all three of them no worse.
        lists = ((0, 1, 2, 3), (3, 2, 1, 0), (1, 3, 2, 0), (2, 1, 3, 0))
        got = (1, 0, 0, 0)
        self.assertEqual(gains(lists, got, (1, 2, 3)), (1, 2, 3))
        self.assertEqual(gains(lists, got, (3, 1, 2)), (3, 1, 2))
        self.assertEqual(gains(lists, (0, 1, 2, 3), (1, 2, 3)), (1, 3, 2))

    def test_gains_is_the_first_of_all_ways(self):
        chance = random.Random(204)
        for lists in some_lists(60, 205):
            got = chance.sample(range(len(lists)), len(lists))
            for lot in all_lots(len(lists)):
                self.assertEqual(gains(lists, got, lot), first_gain(lists, got, lot))

    def test_nothing_got_is_worse_than_any_thing(self):
        self.assertEqual(gains(((1, 0), (0, 1)), (None, None), (0, 1)), (0, 1))
        self.assertIs(is_firm(((1, 0), (0, 1)), (None, 0)), False)

    def test_all_ways(self):
        self.assertEqual(all_ways((2, 0, 1)), ((2, 0, 1), (2, 1, 0), (0, 2, 1), (0, 1, 2), (1, 2, 0), (1, 0, 2)))
        self.assertEqual(all_ways([5]), ((5,),))
        self.assertEqual(all_ways(()), ((),))
        self.assertEqual(all_ways((3, 1, 0, 2)), tuple(permutations((3, 1, 0, 2))))

    def test_is_firm_where_no_lot_gains(self):
        firm = 0
        for lists in some_lists(60, 206, most=4):
            for got in permutations(range(len(lists))):
                expected = all(first_gain(lists, got, lot) is None for lot in all_lots(len(lists)))
                self.assertIs(is_firm(lists, got), expected)
                firm += expected and got != tuple(range(len(lists)))
        self.assertGreater(firm, 10)

    def test_trade_alone_is_firm(self):
        for lists in some_lists(60, 207, most=4):
            self.assertEqual([got for got in permutations(range(len(lists))) if is_firm(lists, got)], [trade(lists)])

    def test_many_are_soon_told(self):
        lists = tuple(tuple((one + step) % 40 for step in range(1, 41)) for one in range(40))
        self.assertEqual(trade(lists), tuple((one + 1) % 40 for one in range(40)))
        self.assertIs(is_firm(lists, trade(lists)), True)
        self.assertIs(is_firm(lists, tuple(range(40))), False)

    def test_power_of_two(self):
        self.assertEqual([power_of_two(many) for many in (0, 1, 2, 10, 70)], [1, 2, 4, 1024, 2 ** 70])


class Papers(unittest.TestCase):

    def setUp(self):
        self.lists = ((1, 0, 2, 3), (0, 1, 2, 3), (0, 3, 2, 1), (1, 2, 3, 0))
        self.got = (1, 0, 3, 2)

    def test_paper_tells_the_circles_as_they_go(self):
        self.assertEqual(paper(self.lists), ((0, 1), (2, 3)))
        self.assertEqual(paper([[0, 1, 2], [2, 1, 0], [1, 2, 0]]), ((0,), (1, 2)))

    def test_a_paper_is_taken_from_where_it_begins_and_as_lists(self):
        self.assertIs(check_paper(self.lists, self.got, ((0, 1), (2, 3))), True)
        self.assertIs(check_paper(self.lists, list(self.got), [[1, 0], [3, 2]]), True)

    def test_papers_that_are_off(self):
        for rings in (((0, 1),), ((2, 3), (0, 1)), (), ((0, 1), (2, 3), (0, 1)), ((0, 1, 0, 1), (2, 3)),
                      ((0, 1), (2, 3), (4,)), ((0, 1), (2, 3), (-1,)), ((0, 1), (2,), (3,)), ((0,), (1,), (2, 3)),
                      ((0, 1, 2, 3),), ((0, 1), (2, 3), (3,)), ((0, -3), (2, 3)), ((0, 5), (2, 3))):
            self.assertIs(check_paper(self.lists, self.got, rings), False, rings)
        for got in ((0, 1, 3, 2), (1, 0, 2, 3), (1, 0, 3), (1, 0, 3, 2, 4), (1, 0, 3, None), ()):
            self.assertIs(check_paper(self.lists, got, ((0, 1), (2, 3))), False, got)
        self.assertIs(check_paper(((0,),), (0,), ((0, 0),)), False)

    def test_all_papers_by_the_words(self):
        taken = 0
        for lists in some_lists(30, 208, most=3) + some_lists(3, 209, most=4):
            papers = all_papers(tuple(range(len(lists))))
            for got in permutations(range(len(lists))):
                for rings in papers:
                    expected = shows(lists, got, rings)
                    taken += expected
                    self.assertIs(check_paper(lists, got, rings), expected)
                    self.assertTrue(got == trade(lists) or not expected)
        self.assertGreater(taken, 30)

    def test_its_own_paper_is_taken(self):
        for lists in some_lists(60, 210, most=7):
            self.assertIs(check_paper(lists, trade(lists), paper(lists)), True)


class Better(unittest.TestCase):

    def test_improved(self):
        lists = ((1, 0, 2), (2, 1, 0), (0, 2, 1))
        self.assertEqual(improved(lists, (0, 1, 2)), (0, 1, 2))
        self.assertIsNone(improved(lists, (1, 2, 0)))
        # What 0 got is thing 2, which 1 would rather have; what 1 got is thing 1, which 0 would rather have.
        self.assertEqual(improved(lists, (2, 1, 0)), (0, 1))

    def test_the_lowest_on_comes_ahead_of_the_shortest(self):
        # 0, 1 and 2 could go round; so could 3 and 4 alone.
        lists = ((1, 0, 2, 3, 4), (2, 1, 0, 3, 4), (0, 2, 1, 3, 4), (4, 3, 0, 1, 2), (3, 4, 0, 1, 2))
        self.assertEqual(improved(lists, (0, 1, 2, 3, 4)), (0, 1, 2))
        # Of those of 0 the shortest is told.
        lists = ((1, 2, 0), (2, 1, 0), (0, 2, 1))
        self.assertEqual(improved(lists, (0, 1, 2)), (0, 2))

    def test_the_shortest_of_several_ways(self):
        # 0 would rather have what 1 or 2 got; 1 leads back by 3, 2 by 4 and 5.
        lists = ((1, 2, 0, 3, 4, 5), (3, 1, 0, 2, 4, 5), (4, 2, 0, 1, 3, 5), (0, 3, 1, 2, 4, 5), (5, 4, 0, 1, 2, 3),
                 (0, 5, 1, 2, 3, 4))
        self.assertEqual(improved(lists, tuple(range(6))), (0, 1, 3))

    def test_improved_is_the_first_of_all_rings(self):
        chance = random.Random(211)
        some = 0
        for lists in some_lists(120, 212, most=5):
            got = tuple(chance.sample(range(len(lists)), len(lists)))
            better = [ring for ring in all_rings(len(lists))
                      if all(place(lists[one], got[after]) < place(lists[one], got[one])
                             for one, after in zip(ring, ring[1:] + ring[:1]))]
            expected = min(better, key=lambda ring: (ring[0], len(ring), ring), default=None)
            some += expected is not None
            self.assertEqual(improved(lists, got), expected)
        self.assertGreater(some, 30)

    def test_what_trade_gives_is_not_improved(self):
        for lists in some_lists(40, 213):
            self.assertIsNone(improved(lists, trade(lists)))


class TakingTurns(unittest.TestCase):

    def test_in_turn(self):
        lists = ((0, 1), (0, 1), (1, 0))
        self.assertEqual(in_turn(lists, (0, 1, 2)), (0, 1, None))
        self.assertEqual(in_turn(lists, [2, 1, 0]), (None, 0, 1))
        self.assertEqual(in_turn(lists, (1,)), (None, 0, None))
        self.assertEqual(in_turn(lists, ()), (None, None, None))

    def test_things_nobody_lists_and_bare_lists(self):
        self.assertEqual(in_turn(((), (7, 3), (7,)), (0, 1, 2)), (None, 7, None))
        self.assertEqual(turn_for(((), (7, 3), (7,)), (None, 3, 7)), (0, 2, 1))
        self.assertIsNone(turn_for(((), (7, 3), (7,)), (3, 7, None)))

    def test_turn_for(self):
        lists = ((0, 1), (0, 1), (1, 0))
        self.assertEqual(turn_for(lists, (0, 1, None)), (0, 1, 2))
        self.assertEqual(turn_for(lists, [None, 0, 1]), (1, 2, 0))
        for got in ((1, 0, None), (0, 0, 1), (None, None, None), (0, 1), (0, 1, None, None), (0, 1, 2), ()):
            self.assertEqual(turn_for(lists, got), (1, 0, 2) if got == (1, 0, None) else None)

    def test_turn_for_is_the_first_of_all_orders(self):
        chance = random.Random(214)
        none = 0
        for _ in range(120):
            many, things = chance.randint(0, 4), chance.randint(0, 4)
            lists = tuple(some_list(chance, things) for _ in range(many))
            orders = list(permutations(range(many)))
            by_order = {}
            for order in orders:
                by_order.setdefault(in_turn(lists, order), order)
            for got, order in by_order.items():
                self.assertEqual(turn_for(lists, got), order)
            for _ in range(5):
                got = tuple(chance.choice((None, *range(things))) for _ in range(many))
                none += got not in by_order
                self.assertEqual(turn_for(lists, got), by_order.get(got))
        self.assertGreater(none, 50)


if __name__ == "__main__":
    unittest.main()
