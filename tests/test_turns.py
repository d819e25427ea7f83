"""Point 7: rings that turn, all stable matchings, the better, the worse, the middle and the fairest."""

import unittest

from pairmart.asks import ask_all, offer_all
from pairmart.errors import BadMatch, BadSize
from pairmart.markets import Market, is_stable
from pairmart.turns import (
    MOST, Turn, all_stable, better_of, can_pairs, fairest, is_above, middle, must_be_stable, next_asker, next_room,
    sum_of_ranks, sure_pairs, turned, turns, way_down, worse_of,
)
from small import by_place, full_markets, place, some_markets, stable_ones


def small_ones():
    return some_markets(120, 81) + full_markets(120, 82) + full_markets(6, 83, 5)


def round_market(many):
    """A market of so many in which each next turn of all gives each its next room: as many stable matchings."""
    return rounds_market((many,))


def rounds_market(counts):
    """Markets of so many beside each other, in each of which all go round and round its rooms."""
    lists, orders = [], []
    for many in counts:
        first = len(lists)
        for asker in range(many):
            lists.append([first + (asker + step) % many for step in range(many)])
        for room in range(many):
            orders.append([first + (room + 1 + step) % many for step in range(many)])
    return Market(lists, orders, [1] * len(lists))


class Rings(unittest.TestCase):

    def test_turn_has_its_fields(self):
        turn = Turn([0, 2, 1], [4, 3, 5])
        self.assertEqual((turn.askers, turn.rooms), ((0, 2, 1), (4, 3, 5)))
        self.assertEqual(turn.shown(), ((0, 4), (2, 3), (1, 5)))

    def test_turn_is_shown_from_its_lowest_asker_on(self):
        self.assertEqual(Turn((3, 1, 2), (5, 6, 7)).shown(), ((1, 6), (2, 7), (3, 5)))

    def test_most(self):
        self.assertEqual(MOST, 500)

    def test_next_room(self):
        market = Market(((0, 1, 2), (1, 0, 2), (2, 0, 1)), ((1, 2, 0), (0, 2, 1), (2, 0, 1)), (1, 1, 1))
        match = (0, 1, 2)
        self.assertEqual([next_room(market, match, asker) for asker in range(3)], [1, 0, 0])
        self.assertEqual([next_asker(market, match, asker) for asker in range(3)], [1, 0, 0])

    def test_next_room_leaves_out_rooms_that_want_it_not(self):
        # Room 1 doesn't list asker 0, room 2 is full of better, room 3 has no seats.
        market = Market(((0, 1, 2, 3, 4), (2,), (4,)), ((0,), (), (1, 0), (0,), (0, 2)), (1, 1, 1, 0, 1))
        match = (0, 2, 4)
        self.assertTrue(is_stable(market, match))
        self.assertEqual(next_room(market, match, 0), 4)
        self.assertEqual(next_asker(market, match, 0), 2)

    def test_next_room_by_the_worst_of_several(self):
        market = Market(((0, 1), (1,), (1,), (1,)), ((0,), (1, 2, 0, 3)), (1, 3))
        self.assertEqual(next_room(market, (0, 1, 1, 1), 0), 1)
        self.assertEqual(next_asker(market, (0, 1, 1, 1), 0), 3)
        better = Market(((0, 1), (1,), (1,), (1,)), ((0,), (3, 2, 1, 0)), (1, 3))
        self.assertIsNone(next_room(better, (0, 1, 1, 1), 0))
        self.assertIsNone(next_asker(better, (0, 1, 1, 1), 0))

    def test_no_next_room_behind_a_free_seat(self):
        market = Market(((0, 1, 2), (2,)), ((0,), (0,), (0, 1)), (1, 1, 1))
        self.assertIsNone(next_room(market, (0, 2), 0))
        self.assertIsNone(next_asker(market, (0, 2), 0))
        without = market.with_order(1, ())
        self.assertEqual(next_room(without, (0, 2), 0), 2)
        two = Market(((0, 1, 2), (1,), (2,)), ((0,), (0, 1), (0, 2)), (1, 2, 1))
        self.assertIsNone(next_room(two, (0, 1, 2), 0))

    def test_a_free_seat_of_its_own_room_does_not_matter(self):
        market = Market(((0, 1), (1,)), ((0,), (0, 1)), (2, 1))
        self.assertEqual(next_room(market, (0, 1), 0), 1)
        self.assertEqual(next_asker(market, (0, 1), 0), 1)
        self.assertEqual(turns(market, (0, 1)), ())

    def test_a_free_seat_behind_the_next_room_does_not_matter(self):
        market = Market(((0, 1, 2), (1,)), ((0,), (0, 1), (0,)), (1, 1, 1))
        self.assertEqual(next_room(market, (0, 1), 0), 1)

    def test_one_who_holds_nothing_has_no_next_room(self):
        market = Market(((0,), (0,)), ((0, 1),), (1,))
        self.assertIsNone(next_room(market, (0, None), 1))
        self.assertIsNone(next_asker(market, (0, None), 1))

    def test_turns_by_their_lowest_askers_each_from_its_lowest_on(self):
        market = rounds_market((2, 3))
        found = turns(market, ask_all(market))
        self.assertEqual([turn.shown() for turn in found], [((0, 1), (1, 0)), ((2, 3), (3, 4), (4, 2))])
        self.assertEqual([(turn.askers, turn.rooms) for turn in found], [((0, 1), (1, 0)), ((2, 3, 4), (3, 4, 2))])
        self.assertIs(type(found), tuple)

    def test_a_ring_goes_where_its_askers_point(self):
        market = Market(((0, 2), (1, 0), (2, 1)), ((1, 0), (2, 1), (0, 2)), (1, 1, 1))
        self.assertEqual([turn.shown() for turn in turns(market, (0, 1, 2))], [((0, 2), (2, 1), (1, 0))])
        self.assertEqual(turned((0, 1, 2), turns(market, (0, 1, 2))[0]), (2, 0, 1))

    def test_who_only_points_into_a_ring_is_not_of_it(self):
        market = Market(((0, 1, 2), (1, 0, 2), (2, 0, 1)), ((1, 2, 0), (0, 2, 1), (2, 0, 1)), (1, 1, 1))
        self.assertEqual([turn.shown() for turn in turns(market, (0, 1, 2))], [((0, 1), (1, 0))])

    def test_no_rings(self):
        self.assertEqual(turns(Market((), (), ()), ()), ())
        for market in small_ones():
            self.assertEqual(turns(market, offer_all(market)), ())

    def test_turned(self):
        match = [0, 1, 2, None]
        self.assertEqual(turned(match, Turn((0, 2), (2, 0))), (2, 1, 0, None))
        self.assertEqual(match, [0, 1, 2, None])

    def test_what_has_turned_is_the_next_worse_stable_one(self):
        for market in small_ones():
            found = stable_ones(market)
            for match in found:
                below = [other for other in found if is_above(market, match, other)]
                highest = [other for other in below if not any(is_above(market, more, other) for more in below)]
                after = [turned(match, turn) for turn in turns(market, match)]
                self.assertEqual(sorted(after, key=str), sorted(highest, key=str))
                lows = [min(turn.askers) for turn in turns(market, match)]
                self.assertEqual(lows, sorted(lows))
                self.assertEqual(lows, [turn.askers[0] for turn in turns(market, match)])


class AllOfThem(unittest.TestCase):

    def test_all_stable_ones_each_once(self):
        for market in small_ones():
            found = all_stable(market)
            self.assertEqual(len(set(found)), len(found))
            self.assertEqual(set(found), set(stable_ones(market)))
            self.assertEqual(found[0], ask_all(market))
            self.assertIs(type(found), tuple)

    def test_all_stable_in_the_order_in_which_they_are_reached(self):
        for market in small_ones():
            found = [ask_all(market)]
            for match in found:
                found.extend(other for other in [turned(match, turn) for turn in turns(market, match)]
                             if other not in found)
            self.assertEqual(all_stable(market), tuple(found))

    def test_all_stable_ring_by_ring(self):
        self.assertEqual(all_stable(rounds_market((2, 2))), (
            (0, 1, 2, 3), (1, 0, 2, 3), (0, 1, 3, 2), (1, 0, 3, 2),
        ))
        self.assertEqual(all_stable(rounds_market((3, 2))), (
            (0, 1, 2, 3, 4), (1, 2, 0, 3, 4), (0, 1, 2, 4, 3), (2, 0, 1, 3, 4), (1, 2, 0, 4, 3), (2, 0, 1, 4, 3),
        ))

    def test_rooms_of_several_seats(self):
        market = Market(((0, 1), (0, 1), (1, 0), (1, 0)), ((2, 3, 0, 1), (0, 1, 2, 3)), (2, 2))
        self.assertEqual(set(all_stable(market)), set(stable_ones(market)))
        self.assertEqual(all_stable(market)[0], (0, 0, 1, 1))
        self.assertEqual(all_stable(market)[-1], (1, 1, 0, 0))

    def test_no_askers(self):
        self.assertEqual(all_stable(Market((), ((),), (1,))), ((),))

    def test_five_hundred_are_told_and_more_refused(self):
        self.assertEqual(len(all_stable(rounds_market((5, 5, 5, 4)))), 500)
        for counts in ((7, 8, 9), (2,) * 9):
            with self.assertRaises(BadSize):
                all_stable(rounds_market(counts))

    def test_what_goes_over_all_of_them_refuses_too_many(self):
        market = rounds_market((2,) * 9)
        for refused in (can_pairs, middle, fairest):
            with self.assertRaises(BadSize):
                refused(market)
        self.assertEqual(sure_pairs(market), ())
        self.assertEqual(len(way_down(market)), 10)

    def test_better_and_worse(self):
        for market in small_ones():
            found = stable_ones(market)[:6]
            for one in found:
                for other in found:
                    better, worse = better_of(market, one, other), worse_of(market, list(one), other)
                    self.assertEqual(better, by_place(market, [one, other], min))
                    self.assertEqual(worse, by_place(market, [one, other], max))
                    self.assertTrue(is_stable(market, better) and is_stable(market, worse))

    def test_better_and_worse_refuse_what_is_not_stable(self):
        market = Market(((1, 0), (0, 1)), ((0, 1), (1, 0)), (1, 1))
        for wrong in ((None, None), (1, None), (0,), (0, 0), (2, 0)):
            for one, other in (((1, 0), wrong), (wrong, (1, 0))):
                for refused in (better_of, worse_of, must_be_stable):
                    with self.assertRaises(BadMatch):
                        refused(market, one, other)

    def test_must_be_stable_tells_nothing_of_stable_ones(self):
        market = Market(((1, 0), (0, 1)), ((0, 1), (1, 0)), (1, 1))
        self.assertIsNone(must_be_stable(market, (1, 0), (0, 1)))

    def test_way_down(self):
        for market in small_ones():
            way = way_down(market)
            self.assertEqual((way[0], way[-1]), (ask_all(market), offer_all(market)))
            self.assertIs(type(way), tuple)
            for match, after in zip(way, way[1:]):
                self.assertEqual(after, turned(match, turns(market, match)[0]))
        self.assertEqual(way_down(rounds_market((2, 2))), ((0, 1, 2, 3), (1, 0, 2, 3), (1, 0, 3, 2)))

    def test_sure_pairs_and_can_pairs(self):
        for market in small_ones():
            sets = [set((asker, room) for asker, room in enumerate(match) if room is not None)
                    for match in stable_ones(market)]
            self.assertEqual(sure_pairs(market), tuple(sorted(set.intersection(*sets))))
            self.assertEqual(can_pairs(market), tuple(sorted(set.union(*sets))))

    def test_middle(self):
        for market in small_ones():
            found = stable_ones(market)
            lists = market.shown()[0]
            expected = []
            for asker, order in enumerate(lists):
                rooms = sorted([match[asker] for match in found], key=lambda room, order=order: place(order, room))
                expected.append(rooms[(len(rooms) + 1) // 2 - 1])
            self.assertEqual(middle(market), tuple(expected))
            self.assertIn(middle(market), found)

    def test_middle_is_the_better_of_two(self):
        self.assertEqual(middle(round_market(2)), (0, 1))
        self.assertEqual(middle(round_market(3)), (1, 2, 0))
        self.assertEqual(middle(round_market(4)), (1, 2, 3, 0))
        self.assertEqual(middle(Market(((0,), (0,)), ((1, 0),), (1,))), (None, 0))

    def test_fairest(self):
        for market in small_ones():
            found = all_stable(market)
            least = min(sum_of_ranks(market, match) for match in found)
            first = [match for match in found if sum_of_ranks(market, match) == least][0]
            self.assertEqual(fairest(market), first)

    def test_fairest_is_the_first_of_as_little(self):
        market = round_market(3)
        self.assertEqual([sum_of_ranks(market, match) for match in all_stable(market)], [12, 12, 12])
        self.assertEqual(fairest(market), (0, 1, 2))

    def test_fairest_is_of_both_sides(self):
        # Askers have their firsts and rooms their thirds at first; in the end rooms their firsts, askers seconds.
        market = Market(((0, 1, 2), (1, 0, 2), (2,)), ((1, 2, 0), (0, 2, 1), (2,)), (1, 1, 1))
        self.assertEqual(all_stable(market), ((0, 1, 2), (1, 0, 2)))
        self.assertEqual([sum_of_ranks(market, match) for match in all_stable(market)], [10, 8])
        self.assertEqual(fairest(market), (1, 0, 2))

    def test_sum_of_ranks(self):
        market = Market(((0, 1), (1, 0), (0,)), ((1, 0), (0, 1, 2)), (2, 1))
        self.assertEqual(sum_of_ranks(market, (0, 1, None)), (1 + 2) + (1 + 2))
        self.assertEqual(sum_of_ranks(market, (1, 0, None)), (2 + 1) + (2 + 1))
        self.assertEqual(sum_of_ranks(market, (0, 0, None)), (1 + 2) + (2 + 1))
        self.assertEqual(sum_of_ranks(market, (None, None, None)), 0)

    def test_is_above(self):
        market = Market(((1, 0), (0, 1)), ((0, 1), (1, 0)), (1, 1))
        self.assertIs(is_above(market, (1, 0), (0, 1)), True)
        self.assertIs(is_above(market, (0, 1), (1, 0)), False)
        self.assertIs(is_above(market, (1, 0), [1, 0]), False)
        self.assertIs(is_above(market, (1, None), (None, 0)), False)
        self.assertIs(is_above(market, (1, 0), (1, None)), True)


if __name__ == "__main__":
    unittest.main()
