"""Point 3: markets, matchings, and what blocks them."""

import unittest

from pairmart.errors import BadMatch, BadRoom, BadWish
from pairmart.markets import (
    Market, as_good, blocks, check_match, filled, is_stable, ranks_of, settled, those_in, unwanted, would_take,
)
from pairmart.wishes import Wish
from small import all_matches, blocking, place, some_markets, stable_ones


class Markets(unittest.TestCase):

    def setUp(self):
        self.lists = ((1, 0), (0,), (1, 0, 2), ())
        self.orders = ((2, 1, 0), (0, 3), (1,))
        self.seats = (2, 1, 0)
        self.market = Market(self.lists, self.orders, self.seats)

    def test_fields(self):
        self.assertTrue(all(isinstance(wish, Wish) for wish in (*self.market.askers, *self.market.rooms)))
        self.assertEqual(tuple(wish.order for wish in self.market.askers), self.lists)
        self.assertEqual(tuple(wish.order for wish in self.market.rooms), self.orders)
        self.assertEqual(self.market.seats, (2, 1, 0))
        self.assertEqual((type(self.market.askers), type(self.market.rooms)), (tuple, tuple))

    def test_rows_may_be_lists(self):
        market = Market([list(row) for row in self.lists], [list(row) for row in self.orders], list(self.seats))
        self.assertEqual(market.shown(), (self.lists, self.orders, self.seats))

    def test_refuses_seats(self):
        for orders, seats in ((((), ()), (1,)), (((),), (1, 1)), (((),), (-1,)), (((), ()), (1, -1)), ((), (1,))):
            with self.assertRaises(BadRoom):
                Market(((),), orders, seats)

    def test_refuses_lists_and_orders(self):
        for lists, orders in ((((0, 0),), ((),)), (((1,),), ((),)), (((-1,),), ((),)), (((),), ((0, 0),)),
                              (((),), ((1,),)), ((), ((0,),))):
            with self.assertRaises(BadWish):
                Market(lists, orders, (1,))

    def test_size(self):
        self.assertEqual(self.market.size(), 4)
        self.assertEqual(Market((), (), ()).size(), 0)

    def test_likes(self):
        liked = [(asker, room) for asker in range(4) for room in range(3) if self.market.likes(asker, room)]
        self.assertEqual(liked, [(0, 0), (0, 1), (1, 0), (2, 0)])
        self.assertIs(self.market.likes(3, 1), False)
        self.assertIs(self.market.likes(2, 1), False)
        self.assertIs(self.market.likes(0, 0), True)

    def test_pairs_asker_by_asker_in_the_askers_order(self):
        self.assertEqual(self.market.pairs(), ((0, 1), (0, 0), (1, 0), (2, 0)))
        self.assertEqual(Market((), ((),), (1,)).pairs(), ())

    def test_with_list(self):
        other = self.market.with_list(0, [0])
        self.assertEqual(other.shown(), (((0,), (0,), (1, 0, 2), ()), self.orders, self.seats))
        self.assertEqual(self.market.shown(), (self.lists, self.orders, self.seats))
        for order in ((0, 0), (3,), (-1,)):
            with self.assertRaises(BadWish):
                self.market.with_list(0, order)

    def test_with_order(self):
        other = self.market.with_order(2, [3, 0])
        self.assertEqual(other.shown(), (self.lists, ((2, 1, 0), (0, 3), (3, 0)), self.seats))
        self.assertEqual(self.market.shown(), (self.lists, self.orders, self.seats))
        for order in ((0, 0), (4,), (-1,)):
            with self.assertRaises(BadWish):
                self.market.with_order(0, order)

    def test_with_seats(self):
        other = self.market.with_seats(1, 0)
        self.assertEqual(other.shown(), (self.lists, self.orders, (2, 0, 0)))
        self.assertEqual(self.market.shown(), (self.lists, self.orders, self.seats))
        with self.assertRaises(BadRoom):
            self.market.with_seats(1, -1)

    def test_shown_is_tuples_throughout(self):
        lists, orders, seats = self.market.shown()
        for rows in (lists, orders):
            self.assertIs(type(rows), tuple)
            self.assertTrue(all(type(row) is tuple for row in rows))
        self.assertIs(type(seats), tuple)


class Matchings(unittest.TestCase):

    def setUp(self):
        # Room 1 lists nobody but asker 3, and has no seats.
        self.market = Market(((0, 1), (0, 2), (0, 2), (1, 0)), ((2, 0, 3), (3,), (1, 2)), (2, 0, 1))

    def test_check_match(self):
        self.assertEqual(check_match(self.market, [0, None, 0, None]), (0, None, 0, None))
        self.assertEqual(check_match(self.market, (None, 2, None, 0)), (None, 2, None, 0))
        self.assertEqual(check_match(Market((), (), ()), []), ())

    def test_check_match_refuses(self):
        for match in ((0, None, 0), (0, None, 0, None, None), (), (0, 0, 0, None), (None, None, None, 1),
                      (None, 2, 2, None), (3, None, None, None), (-1, None, None, None)):
            with self.assertRaises(BadMatch):
                check_match(self.market, match)

    def test_those_in(self):
        self.assertEqual(those_in([0, 2, 0, None], 0), (0, 2))
        self.assertEqual(those_in((0, 2, 0, None), 1), ())
        self.assertEqual(those_in((0, 2, 0, None), 2), (1,))

    def test_unwanted(self):
        self.assertEqual(unwanted(self.market, (0, 0, 2, 2)), ((1, 0), (3, 2)))
        self.assertEqual(unwanted(self.market, (1, None, None, 1)), ((0, 1),))
        self.assertEqual(unwanted(self.market, (None, None, None, None)), ())

    def test_would_take(self):
        free = (0, None, None, None)
        self.assertIs(would_take(self.market, free, 0, 3), True)
        self.assertIs(would_take(self.market, free, 0, 1), False)
        full = (0, None, None, 0)
        self.assertIs(would_take(self.market, full, 0, 2), True)
        self.assertIs(would_take(self.market, (0, None, 0, None), 0, 3), False)
        self.assertIs(would_take(self.market, (None, None, 0, 0), 0, 0), True)

    def test_a_room_without_seats_takes_nobody(self):
        self.assertIs(would_take(self.market, (None, None, None, None), 1, 3), False)

    def test_a_full_room_takes_a_listed_one_for_one_that_it_does_not_list(self):
        match = (None, 0, 0, None)
        self.assertIs(would_take(self.market, match, 0, 3), True)
        self.assertIs(would_take(self.market, match, 0, 1), False)
        self.assertEqual(blocks(self.market, match), ((0, 0), (3, 0)))

    def test_blocks_in_the_askers_order(self):
        market = Market(((1, 0), (0, 1)), ((0, 1), (1, 0)), (1, 1))
        self.assertEqual(blocks(market, (None, None)), ((0, 1), (0, 0), (1, 0), (1, 1)))
        self.assertEqual(blocks(market, (0, 1)), ())
        self.assertEqual(blocks(market, (1, 0)), ())
        self.assertEqual(blocks(market, (1, None)), ((1, 0), (1, 1)))
        self.assertEqual(blocks(market, (None, 0)), ((0, 1), (0, 0)))

    def test_one_in_a_room_it_does_not_list_would_rather_have_any_that_it_lists(self):
        market = Market(((0,), ()), ((0, 1), (0,)), (1, 1))
        self.assertEqual(blocks(market, (1, None)), ((0, 0),))

    def test_blocks_are_those_of_the_words(self):
        for market in some_markets(60, 31, askers=3, rooms=3):
            for match in all_matches(market.size(), market.seats):
                self.assertEqual(blocks(market, match), blocking(market, match))

    def test_is_stable(self):
        market = Market(((1, 0), (0, 1)), ((0, 1), (1, 0)), (1, 1))
        self.assertIs(is_stable(market, [1, 0]), True)
        self.assertIs(is_stable(market, (0, 1)), True)
        self.assertIs(is_stable(market, (1, None)), False)
        self.assertIs(is_stable(Market((), (), ()), ()), True)

    def test_who_is_not_wanted_is_not_stable(self):
        self.assertIs(is_stable(Market(((0,),), ((),), (1,)), (0,)), False)
        self.assertIs(is_stable(Market(((),), ((0,),), (1,)), (0,)), False)
        self.assertIs(is_stable(Market(((0,),), ((),), (1,)), (None,)), True)

    def test_is_stable_refuses(self):
        for match in ((0, 0), (0,), (0, 2), (None, None, None)):
            with self.assertRaises(BadMatch):
                is_stable(Market(((0,), (0,)), ((0, 1), ()), (1, 1)), match)

    def test_is_stable_for_just_those_of_the_words(self):
        for market in some_markets(60, 32, askers=3, rooms=3):
            found = [match for match in all_matches(market.size(), market.seats) if is_stable(market, match)]
            self.assertEqual(found, stable_ones(market))

    def test_settled_into_a_free_seat(self):
        self.assertEqual(settled(self.market, [None, 2, 0, None], (0, 0)), (0, 2, 0, None))

    def test_settled_leaves_what_it_had(self):
        market = Market(((0, 1),), ((0,), (0,)), (1, 1))
        self.assertEqual(settled(market, (1,), (0, 0)), (0,))

    def test_settled_sends_the_worst_away(self):
        self.assertEqual(settled(self.market, (0, 2, None, 0), (2, 0)), (0, 2, 0, None))

    def test_settled_sends_away_one_that_is_not_listed_first(self):
        self.assertEqual(settled(self.market, (None, 0, 0, None), (3, 0)), (None, None, 0, 0))

    def test_settled_sends_away_the_lowest_of_several_that_are_not_listed(self):
        market = Market(((), (), (0,), ()), ((2, 3),), (3,))
        self.assertEqual(settled(market, (0, 0, None, 0), (2, 0)), (None, 0, 0, 0))

    def test_settled_changes_nothing_that_it_is_passed(self):
        match = [0, 2, None, 0]
        settled(self.market, match, (2, 0))
        self.assertEqual(match, [0, 2, None, 0])

    def test_a_settled_pair_is_together_and_no_room_too_full(self):
        for market in some_markets(40, 33, askers=3, rooms=3):
            for match in all_matches(market.size(), market.seats):
                for asker, room in blocks(market, match):
                    found = check_match(market, settled(market, match, (asker, room)))
                    self.assertEqual(found[asker], room)
                    gone = [one for one, had in enumerate(match) if had == room and found[one] != room]
                    order = market.rooms[room].order
                    full = match.count(room) == market.seats[room]
                    self.assertEqual(len(gone), 1 if full else 0)
                    for one in gone:
                        worst = max(place(order, other) for other, had in enumerate(match) if had == room)
                        self.assertEqual(place(order, one), worst)

    def test_ranks_of(self):
        self.assertEqual(ranks_of(self.market, (0, 2, None, 2)), (0, 1, 2, None))
        self.assertEqual(ranks_of(Market(((),), (), ()), (None,)), (0,))

    def test_as_good(self):
        market = Market(((0, 1), (0, 1)), ((0, 1), (0, 1)), (1, 1))
        self.assertIs(as_good(market, (0, 1), (None, 1)), True)
        self.assertIs(as_good(market, (None, 1), (0, 1)), False)
        self.assertIs(as_good(market, (0, 1), (0, 1)), True)
        self.assertIs(as_good(market, (0, 1), (1, 0)), False)
        self.assertIs(as_good(market, (1, 0), (0, 1)), False)

    def test_as_good_is_what_is_not_listed_as_none_other_that_is_not(self):
        market = Market(((),), ((), ()), (1, 1))
        self.assertIs(as_good(market, (0,), (1,)), True)
        self.assertIs(as_good(market, (0,), (None,)), False)
        self.assertIs(as_good(market, (None,), (0,)), True)

    def test_filled(self):
        self.assertEqual(filled(self.market, (0, 2, 0, None)), (2, 0, 1))
        self.assertEqual(filled(self.market, (None, None, None, None)), (0, 0, 0))
        self.assertEqual(filled(Market((), (), ()), ()), ())


if __name__ == "__main__":
    unittest.main()
