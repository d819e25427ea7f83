"""Point 9: what all stable matchings share; waste and envy."""

import unittest

from pairmart.asks import ask_all, offer_all
from pairmart.errors import BadRoom
from pairmart.fills import envy, is_only, left_over, more_seats, moves, seated, seats_taken, short_rooms, waste
from pairmart.markets import Market
from small import all_matches, by_place, full_markets, place, some_markets, stable_ones


def small_ones():
    return some_markets(150, 111) + full_markets(40, 112)


class SameInAll(unittest.TestCase):

    def test_words(self):
        # Room 0 has two seats, room 1 none, and room 2 two, one of which stays free.
        market = Market(((0,), (0, 1), (1, 0), (2,)), ((0, 2, 1), (1, 2), (3, 0)), (2, 0, 2))
        self.assertEqual(seated(market), (0, 2, 3))
        self.assertEqual(left_over(market), (1,))
        self.assertEqual(seats_taken(market), (2, 0, 1))
        self.assertEqual(short_rooms(market), ((2, (3,)),))
        self.assertEqual(moves(market), ())
        self.assertIs(is_only(market), True)

    def test_moves(self):
        market = Market(((0, 1), (1, 0), (2,)), ((1, 0), (0, 1), (2,)), (1, 1, 1))
        self.assertEqual(moves(market), ((0, 0, 1), (1, 1, 0)))
        self.assertIs(is_only(market), False)

    def test_nobody(self):
        market = Market((), ((), ()), (1, 0))
        self.assertEqual((seated(market), left_over(market), seats_taken(market)), ((), (), (0, 0)))
        self.assertEqual((short_rooms(market), moves(market), is_only(market)), (((0, ()),), (), True))

    def test_the_same_in_all_stable_matchings(self):
        for market in small_ones():
            for match in stable_ones(market):
                self.assertEqual(seated(market), tuple(one for one, room in enumerate(match) if room is not None))
                self.assertEqual(left_over(market), tuple(one for one, room in enumerate(match) if room is None))
                counts = tuple(match.count(room) for room in range(len(market.rooms)))
                self.assertEqual(seats_taken(market), counts)
                free = [room for room, count in enumerate(counts) if count < market.seats[room]]
                inside = [(room, tuple(one for one, had in enumerate(match) if had == room)) for room in free]
                self.assertEqual(short_rooms(market), tuple(inside))

    def test_moves_from_the_best_to_the_worst(self):
        for market in small_ones():
            found = stable_ones(market)
            best, worst = by_place(market, found, min), by_place(market, found, max)
            expected = [(asker, room, worst[asker]) for asker, room in enumerate(best) if worst[asker] != room]
            self.assertEqual(moves(market), tuple(expected))
            self.assertIs(is_only(market), len(found) == 1)


class WasteAndEnvy(unittest.TestCase):

    def test_waste(self):
        market = Market(((0, 1), (1, 0), (2, 0)), ((1, 0, 2), (0, 1), ()), (2, 1, 1))
        self.assertEqual(waste(market, (None, None, None)), ((0, 0), (0, 1), (1, 1), (1, 0), (2, 0)))
        self.assertEqual(waste(market, (0, 1, 0)), ())
        self.assertEqual(waste(market, (1, 0, None)), ((0, 0), (2, 0)))
        self.assertEqual(waste(market.with_seats(0, 0), (None, None, None)), ((0, 1), (1, 1)))

    def test_envy(self):
        market = Market(((0, 1), (1, 0), (0,)), ((1, 0, 2), (0, 1)), (2, 1))
        self.assertEqual(envy(market, (1, 0, 0)), ((0, 2, 0),))
        self.assertEqual(envy(market, (None, 1, 0)), ((0, 1, 1), (0, 2, 0)))
        self.assertEqual(envy(market, (0, 1, None)), ())
        self.assertEqual(envy(market, (None, None, None)), ())

    def test_envy_of_one_that_the_room_does_not_list(self):
        market = Market(((0,), (0,)), ((0,),), (1,))
        self.assertEqual(envy(market, (None, 0)), ((0, 1, 0),))
        self.assertEqual(envy(market, (0, None)), ())

    def test_envy_of_several_in_one_room(self):
        market = Market(((0, 1), (1, 0), (0, 1)), ((0, 1, 2), (0, 1, 2)), (2, 2))
        self.assertEqual(envy(market, (None, 0, 0)), ((0, 1, 0), (0, 2, 0)))
        self.assertEqual(envy(market, (None, 1, 0)), ((0, 1, 1), (0, 2, 0)))

    def test_by_the_words_for_all_matchings(self):
        for market in some_markets(40, 113, askers=3, rooms=3):
            lists, orders, seats = market.shown()
            for match in all_matches(market.size(), seats):
                spare, spite = [], []
                for asker, order in enumerate(lists):
                    for room in order[:place(order, match[asker])]:
                        if asker in orders[room] and match.count(room) < seats[room]:
                            spare.append((asker, room))
                    for other, room in enumerate(match):
                        if room is not None and place(order, room) < place(order, match[asker]) \
                                and asker in orders[room] \
                                and place(orders[room], asker) < place(orders[room], other):
                            spite.append((asker, other, room))
                self.assertEqual(waste(market, match), tuple(spare))
                self.assertEqual(envy(market, match), tuple(spite))

    def test_stable_ones_are_without_waste_and_envy(self):
        for market in some_markets(40, 114):
            for match in (ask_all(market), offer_all(market)):
                self.assertEqual((waste(market, match), envy(market, match)), ((), ()))

    def test_more_seats(self):
        market = Market(((0, 1), (0,), (0,)), ((1, 0, 2), (0,)), (1, 1))
        self.assertEqual(more_seats(market, 0, 0), (1, 0, 1))
        self.assertEqual(more_seats(market, 0, 1), (0, 0, 1))
        self.assertEqual(more_seats(market, 0, 2), (0, 0, 0))
        self.assertEqual(more_seats(market, 0, -1), (1, 1, 1))
        self.assertEqual(more_seats(market, 1, 3), (1, 0, 1))
        with self.assertRaises(BadRoom):
            more_seats(market, 0, -2)

    def test_more_seats_do_no_asker_harm(self):
        for market in some_markets(60, 115):
            for room in range(len(market.rooms)):
                ranks = more_seats(market, room, 0)
                more = more_seats(market, room, 1)
                self.assertTrue(all(new <= old for new, old in zip(more, ranks)))


if __name__ == "__main__":
    unittest.main()
