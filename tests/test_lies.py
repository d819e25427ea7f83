"""Point 8: lies."""

import unittest
from itertools import product
from unittest import mock

from pairmart.asks import ask_all, offer_all
from pairmart.errors import BadSize, BadWish
from pairmart.lies import (
    as_true, best_lie, cut_lists, had_by, helped, lists_of_lot, lot_lie, reached, room_lie,
)
from pairmart.markets import Market
from small import full_markets, lists_below, place, some_markets


def crossed():
    """Two askers and two rooms that want each other crosswise."""
    return Market(((0, 1), (1, 0)), ((1, 0), (0, 1)), (1, 1))


class AskersLies(unittest.TestCase):

    def test_reached_for_all_lists_in_order(self):
        self.assertEqual(reached(crossed(), 0), (
            ((), None), ((0,), 0), ((1,), 1), ((0, 1), 0), ((1, 0), 1),
        ))

    def test_reached_is_what_asking_gives(self):
        for market in some_markets(20, 91, askers=3, rooms=3):
            for asker in range(market.size()):
                expected = tuple((order, ask_all(market.with_list(asker, order))[asker])
                                 for order in lists_below(len(market.rooms)))
                self.assertEqual(reached(market, asker), expected)

    def test_reached_is_for_up_to_five_rooms(self):
        five = Market(((0,),), ((0,), (), (), (), ()), (1,) * 5)
        self.assertEqual(len(reached(five, 0)), 326)
        self.assertIsNone(best_lie(five, 0))
        six = Market(((0,),), ((0,), (), (), (), (), ()), (1,) * 6)
        for refused in (reached, best_lie):
            with self.assertRaises(BadSize):
                refused(six, 0)

    def test_no_lie_helps_an_asker(self):
        for market in some_markets(60, 92, askers=4, rooms=3) + full_markets(30, 93, 3):
            had = ask_all(market)
            for asker in range(market.size()):
                self.assertIsNone(best_lie(market, asker))
                self.assertFalse([order for order, room in reached(market, asker)
                                  if market.askers[asker].better(room, had[asker])])

    def test_a_lie_that_helps_is_told(self):
        # No lie helps where askers ask; where rooms offer, some do: the first of these is to be told.
        some = 0
        with mock.patch("pairmart.lies.ask_all", offer_all):
            for market in full_markets(60, 101, 3):
                had, lists = offer_all(market), market.shown()[0]
                for asker, order in enumerate(lists):
                    lies = [(lie, room) for lie, room in reached(market, asker)
                            if place(order, room) < place(order, had[asker])]
                    some += lies != []
                    self.assertEqual(best_lie(market, asker), lies[0] if lies else None)
        self.assertGreater(some, 5)

    def test_a_lie_that_helps_all_of_a_lot_is_told(self):
        some = 0
        with mock.patch("pairmart.lies.ask_all", offer_all):
            for market in full_markets(12, 102, 3):
                had, lists = offer_all(market), market.shown()[0]
                for lot in ((0,), (1, 2), (2, 0)):
                    lies = []
                    for way in product(lists_below(3), repeat=len(lot)):
                        told = list(lists)
                        for asker, order in zip(lot, way):
                            told[asker] = order
                        got = offer_all(Market(told, market.shown()[1], market.seats))
                        if all(place(lists[one], got[one]) < place(lists[one], had[one]) for one in lot):
                            lies.append(way)
                    some += lies != []
                    self.assertEqual(lot_lie(market, lot), lies[0] if lies else None)
        self.assertGreater(some, 2)

    def test_lists_of_lot(self):
        one = Market(((0,), (0,)), ((0, 1),), (1,))
        self.assertEqual(lists_of_lot(one, (1,)), [((),), ((0,),)])
        self.assertEqual(lists_of_lot(one, [0, 1]), [((), ()), ((), (0,)), ((0,), ()), ((0,), (0,))])
        self.assertEqual(lists_of_lot(one, ()), [()])
        three = Market(((), (), ()), ((), (), ()), (1, 1, 1))
        self.assertEqual(lists_of_lot(three, (2, 0)), list(product(lists_below(3), repeat=2)))

    def test_bounds_of_lots(self):
        three = Market(((0,),) * 3, ((0, 1, 2), (), ()), (1, 1, 1))
        self.assertEqual(len(lists_of_lot(three, (0, 1))), 256)
        self.assertIsNone(lot_lie(three, (0, 1)))
        four = Market(((0,),) * 3, ((0, 1, 2), (), (), ()), (1, 1, 1, 1))
        for refused in (lists_of_lot, lot_lie):
            for market, lot in ((three, (0, 1, 2)), (four, (0, 1)), (four, (0,))):
                with self.assertRaises(BadSize):
                    refused(market, lot)

    def test_no_lie_gets_all_of_a_lot_better(self):
        for market in some_markets(25, 94, askers=3, rooms=3) + full_markets(8, 95, 3):
            for one in range(market.size()):
                self.assertIsNone(lot_lie(market, (one,)))
                for other in range(one):
                    self.assertIsNone(lot_lie(market, (one, other)))

    def test_cut_lists(self):
        market = Market(((0, 1, 2), (0,), (1,)), ((1, 0), (2, 0), (0,)), (1, 1, 1))
        self.assertEqual(cut_lists(market, 0), (None, None, None, 2))
        self.assertEqual(cut_lists(market, 1), (None, 0))
        self.assertEqual(cut_lists(Market(((),), (), ()), 0), (None,))
        for market in some_markets(30, 96):
            for asker, wish in enumerate(market.askers):
                expected = tuple(ask_all(market.with_list(asker, wish.order[:length]))[asker]
                                 for length in range(len(wish.order) + 1))
                self.assertEqual(cut_lists(market, asker), expected)

    def test_helped(self):
        market = Market(((0, 1), (0, 1)), ((0, 1), (0, 1)), (1, 1))
        self.assertEqual(helped(market, 0, (1,)), ((1,), ()))
        self.assertEqual(helped(market, 0, [0, 1]), ((), ()))
        self.assertEqual(helped(market, 1, (0,)), ((), ()))
        lazy = market.with_list(0, ())
        self.assertEqual(ask_all(lazy), (None, 0))
        self.assertEqual(helped(lazy, 0, (0,)), ((), (1,)))
        three = Market(((2,), (0, 1), (1, 0)), ((2, 1, 0), (0, 1, 2), (0,)), (1, 1, 1))
        self.assertEqual(helped(three, 0, (1,)), ((), (1, 2)))

    def test_helped_refuses(self):
        for order in ((0, 0), (2,), (-1,)):
            with self.assertRaises(BadWish):
                helped(crossed(), 0, order)

    def test_helped_is_of_the_others(self):
        for market in some_markets(20, 97, askers=3, rooms=2):
            had, lists = ask_all(market), market.shown()[0]
            for asker in range(market.size()):
                for order in lists_below(len(market.rooms)):
                    got = ask_all(market.with_list(asker, order))
                    others = [one for one in range(market.size()) if one != asker]
                    better = [one for one in others if place(lists[one], got[one]) < place(lists[one], had[one])]
                    worse = [one for one in others if place(lists[one], got[one]) > place(lists[one], had[one])]
                    self.assertEqual(helped(market, asker, order), (tuple(better), tuple(worse)))

    def test_as_true(self):
        self.assertIs(as_true((0, 1, 2), (1, 0, 2), 2), True)
        self.assertIs(as_true([1, 0, 2], (0, 1, 2), 2), True)
        self.assertIs(as_true((0, 1, 2), [1, 0, 2], 1), False)
        self.assertIs(as_true((0, 1), (0, 1, 2), 1), True)
        self.assertIs(as_true((0, 1, 2), (2, 0, 1), 1), False)
        self.assertIs(as_true((0, 1), (1, 0), None), True)
        self.assertIs(as_true((0, 1), (1,), None), False)

    def test_as_true_lists_get_the_same_room(self):
        for market in some_markets(20, 98, askers=3, rooms=3):
            for asker, wish in enumerate(market.askers):
                had = ask_all(market)[asker]
                for order, room in reached(market, asker):
                    if had in order and had is not None and as_true(wish.order, order, had):
                        self.assertEqual(room, had)


class RoomsLies(unittest.TestCase):

    def test_the_first_lie_that_gets_a_room_a_better_asker(self):
        # Room 0 has asker 0; when it lists asker 1 alone, it gets it.
        self.assertEqual(ask_all(crossed()), (0, 1))
        self.assertEqual(room_lie(crossed(), 0), ((1,), (1,)))
        self.assertEqual(room_lie(crossed(), 1), ((0,), (0,)))

    def test_none_where_no_lie_helps(self):
        market = Market(((0, 1), (0, 1)), ((0, 1), (0, 1)), (1, 1))
        self.assertIsNone(room_lie(market, 0))
        self.assertIsNone(room_lie(market, 1))

    def test_one_not_listed_is_no_better(self):
        self.assertIsNone(room_lie(Market(((0,), (0,)), ((0,),), (1,)), 0))
        self.assertIsNone(room_lie(Market(((0,),), ((),), (1,)), 0))

    def test_the_first_in_the_order_of_all_lists(self):
        some = 0
        for market in full_markets(60, 99, 3) + some_markets(40, 100, askers=3, rooms=3, seats=(1,)):
            had = ask_all(market)
            for room, wish in enumerate(market.rooms):
                mine = had.index(room) if room in had else None
                expected = None
                for order in lists_below(market.size()):
                    got = ask_all(market.with_order(room, order))
                    theirs = got.index(room) if room in got else None
                    if place(wish.order, theirs) < place(wish.order, mine):
                        expected = (order, (theirs,))
                        break
                some += expected is not None
                self.assertEqual(room_lie(market, room), expected)
        self.assertGreater(some, 5)

    def test_bound_of_askers(self):
        five = Market(((0,),) * 5, ((0, 1, 2, 3, 4),), (1,))
        self.assertIsNone(room_lie(five, 0))
        six = Market(((0,),) * 6, ((0, 1, 2, 3, 4, 5),), (1,))
        with self.assertRaises(BadSize):
            room_lie(six, 0)

    def test_had_by(self):
        self.assertEqual(had_by((None, 1, 0, 1), 1), 1)
        self.assertEqual(had_by([None, 1, 0, 1], 0), 2)
        self.assertIsNone(had_by((None, 1), 0))
        self.assertIsNone(had_by((), 0))


if __name__ == "__main__":
    unittest.main()
