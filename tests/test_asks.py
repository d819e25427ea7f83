"""Points 4 and 5: asking, offering, who comes later, and blocking pairs put together."""

import random
import unittest
from itertools import permutations

from pairmart.asks import (
    Asking, ask_all, ask_in_turn, by_blocks, come_later, many_asks, offer, offer_all, refusals, trace,
)
from pairmart.errors import BadSize
from pairmart.markets import Market, blocks, is_stable, settled
from small import by_place, full_markets, some_markets, stable_ones


def small_ones():
    return some_markets(150, 41) + full_markets(60, 42)


class AskingByAskers(unittest.TestCase):

    def setUp(self):
        # Room 0 has two seats, room 1 lists nobody, room 2 has no seats.
        self.lists = ((0, 1), (2, 0), (1, 0), (0, 3))
        self.market = Market(self.lists, ((3, 2, 1, 0), (), (1, 0), (3,)), (2, 0, 0, 1))

    def test_fields(self):
        asking = Asking(self.market)
        self.assertIs(asking.market, self.market)
        self.assertEqual(asking.next, [0, 0, 0, 0])
        self.assertEqual(asking.held, [None, None, None, None])
        self.assertEqual(asking.steps, [])

    def test_one_ask_after_another(self):
        asking = Asking(self.market)
        self.assertEqual(asking.ask(0), (0, 0, None))
        self.assertEqual(asking.ask(1), (1, 2, 1))
        self.assertEqual(asking.ask(1), (1, 0, None))
        self.assertEqual(asking.ask(2), (2, 1, 2))
        self.assertEqual(asking.ask(2), (2, 0, 0))
        self.assertEqual(asking.next, [1, 2, 2, 0])
        self.assertEqual(asking.held, [None, 0, 0, None])
        self.assertEqual(asking.steps, [(0, 0, None), (1, 2, 1), (1, 0, None), (2, 1, 2), (2, 0, 0)])

    def test_wants(self):
        asking = Asking(self.market)
        self.assertEqual([asking.wants(asker) for asker in range(4)], [True] * 4)
        asking.ask(0)
        self.assertIs(asking.wants(0), False)
        asking.ask(2)
        self.assertIs(asking.wants(2), True)
        other = Asking(Market(((), (0,)), ((),), (1,)))
        self.assertIs(other.wants(0), False)
        other.ask(1)
        self.assertIs(other.wants(1), False)

    def test_go_on_the_lowest_first(self):
        asking = Asking(self.market)
        self.assertEqual(asking.go_on(), (None, None, 0, 0))
        self.assertEqual(asking.held, [None, None, 0, 0])
        self.assertEqual(asking.steps, [
            (0, 0, None), (1, 2, 1), (1, 0, None), (2, 1, 2), (2, 0, 0), (0, 1, 0), (3, 0, 1),
        ])
        self.assertEqual(asking.go_on(), (None, None, 0, 0))

    def test_go_on_from_where_asks_stand(self):
        asking = Asking(self.market)
        asking.ask(3)
        self.assertEqual(asking.go_on(), (None, None, 0, 0))
        self.assertEqual(asking.steps[0], (3, 0, None))

    def test_trace_and_refusals(self):
        self.assertEqual(trace(self.market), (
            (0, 0, None), (1, 2, 1), (1, 0, None), (2, 1, 2), (2, 0, 0), (0, 1, 0), (3, 0, 1),
        ))
        self.assertEqual(refusals(self.market), ((1, 2), (2, 1), (0, 0), (0, 1), (1, 0)))
        self.assertEqual(many_asks(self.market), 7)

    def test_no_askers_and_no_rooms(self):
        for market, match in ((Market((), (), ()), ()), (Market((), ((), ()), (1, 0)), ()),
                              (Market(((), ()), (), ()), (None, None))):
            self.assertEqual(ask_all(market), match)
            self.assertEqual(offer_all(market), match)
            self.assertEqual(ask_in_turn(market, (3, 1)), match)
            self.assertEqual(trace(market), ())
            self.assertEqual(refusals(market), ())
            self.assertEqual(many_asks(market), 0)

    def test_ask_all_is_the_best_stable_one_for_each_asker(self):
        for market in small_ones():
            found = stable_ones(market)
            self.assertEqual(ask_all(market), by_place(market, found, min))
            self.assertIn(ask_all(market), found)

    def test_the_same_end_whatever_the_order(self):
        chance = random.Random(43)
        for market in small_ones():
            for many in (0, 1, 3, 40):
                draws = [chance.randint(0, 20) for _ in range(many)]
                self.assertEqual(ask_in_turn(market, draws), ask_all(market))

    def test_as_many_asks_whatever_the_order(self):
        chance = random.Random(44)
        for market in small_ones():
            asking = Asking(market)
            waiting = [asker for asker in range(market.size()) if asking.wants(asker)]
            while waiting:
                asking.ask(chance.choice(waiting))
                waiting = [asker for asker in range(market.size()) if asking.wants(asker)]
            self.assertEqual(len(asking.steps), many_asks(market))
            self.assertEqual(tuple(asking.held), ask_all(market))

    def test_trace_lets_the_lowest_waiting_asker_ask(self):
        for market in small_ones():
            asking = Asking(market)
            for step in trace(market):
                lowest = min(asker for asker in range(market.size()) if asking.wants(asker))
                self.assertEqual(asking.ask(lowest), step)
            self.assertFalse(any(asking.wants(asker) for asker in range(market.size())))
            refused = tuple((one, room) for _, room, one in asking.steps if one is not None)
            self.assertEqual(refusals(market), refused)


class Offering(unittest.TestCase):

    def test_each_best_who_has_not_refused_or_left(self):
        market = Market(((0, 1), (1, 0)), ((1, 0), (0, 1)), (1, 1))
        self.assertEqual(offer_all(market), (1, 0))
        self.assertEqual(ask_all(market), (0, 1))

    def test_rooms_of_several_seats_and_of_none(self):
        market = Market(((1, 0), (0,), (0, 1)), ((2, 0, 1), (0, 2)), (2, 0))
        self.assertEqual(offer_all(market), (0, None, 0))

    def test_one_who_does_not_list_the_room_refuses_it(self):
        self.assertEqual(offer_all(Market(((), (0,)), ((0, 1),), (1,))), (None, 0))

    def test_offer_all_is_the_worst_stable_one_for_each_asker(self):
        for market in small_ones():
            found = stable_ones(market)
            self.assertEqual(offer_all(market), by_place(market, found, max))
            self.assertIn(offer_all(market), found)

    def test_offer_that_is_taken(self):
        market = Market(((0, 1), (1, 0)), ((0, 1), (0, 1)), (1, 1))
        held, gone = [None, None], {}
        self.assertIsNone(offer(market, held, gone, 1, 0))
        self.assertEqual(held, [1, None])
        self.assertEqual(gone, {})

    def test_offer_that_is_better_than_what_is_held(self):
        market = Market(((0, 1), (1, 0)), ((0, 1), (0, 1)), (1, 1))
        held, gone = [1, None], {}
        self.assertIsNone(offer(market, held, gone, 0, 0))
        self.assertEqual(held, [0, None])
        self.assertIn((0, 1), gone)

    def test_offer_that_is_refused(self):
        market = Market(((0, 1), (1,)), ((0, 1), (0, 1)), (1, 1))
        for held, room, asker in (([0, None], 1, 0), ([None, None], 0, 1)):
            gone = {}
            before = list(held)
            self.assertIsNone(offer(market, held, gone, room, asker))
            self.assertEqual(held, before)
            self.assertEqual(list(gone), [(asker, room)])


class ComingLater(unittest.TestCase):

    def test_all_in_any_order_come_to_the_same(self):
        for market in some_markets(40, 45):
            for order in permutations(range(market.size())):
                for many in range(market.size() + 1):
                    self.assertEqual(come_later(market, order[:many], order[many:]), ask_all(market))

    def test_who_does_not_come_has_nothing(self):
        market = Market(((0,), (0,), (0,)), ((2, 1, 0),), (1,))
        self.assertEqual(come_later(market, (), ()), (None, None, None))
        self.assertEqual(come_later(market, (0,), ()), (0, None, None))
        self.assertEqual(come_later(market, [0], [1]), (None, 0, None))
        self.assertEqual(come_later(market, (), (1, 0)), (None, 0, None))

    def test_those_who_came_have_what_they_have_by_themselves(self):
        for market in some_markets(60, 46):
            lists, orders, seats = market.shown()
            here = range(0, market.size(), 2)
            alone = Market([order if asker in here else () for asker, order in enumerate(lists)], orders, seats)
            self.assertEqual(come_later(market, list(here)[1:], list(here)[:1]), ask_all(alone))

    def test_changes_nothing_that_it_is_passed(self):
        first, order = [1], [0]
        come_later(Market(((0,), (0,)), ((0, 1),), (1,)), first, order)
        self.assertEqual((first, order), ([1], [0]))


class BlockingPairs(unittest.TestCase):

    def setUp(self):
        self.market = Market(((1, 0), (0, 1)), ((0, 1), (1, 0)), (1, 1))

    def test_each_time_the_pair_at_the_draws_rest(self):
        # From nothing the pairs (0, 1), (0, 0), (1, 0), (1, 1) block.
        self.assertEqual(by_blocks(self.market, (None, None), (0,)), (1, 0))
        self.assertEqual(by_blocks(self.market, (None, None), (1,)), (0, 1))
        self.assertEqual(by_blocks(self.market, (None, None), (5,)), (0, 1))
        self.assertEqual(by_blocks(self.market, (None, None), (2,)), (1, 0))

    def test_a_stable_one_stays(self):
        self.assertEqual(by_blocks(self.market, [0, 1], (3,)), (0, 1))
        self.assertEqual(by_blocks(self.market, (1, 0), (3,), 0), (1, 0))

    def test_draws_go_around(self):
        chance = random.Random(47)
        for market in some_markets(80, 48):
            draws = [chance.randint(0, 9) for _ in range(chance.randint(1, 3))]
            match = (None,) * market.size()
            steps = 0
            while blocks(market, match) and steps < 30:
                pairs = blocks(market, match)
                match = settled(market, match, pairs[draws[steps % len(draws)] % len(pairs)])
                steps += 1
            if blocks(market, match) == ():
                self.assertEqual(by_blocks(market, (None,) * market.size(), draws), match)
                self.assertEqual(by_blocks(market, (None,) * market.size(), draws, steps), match)
                self.assertTrue(is_stable(market, match))
            if steps:
                with self.assertRaises(BadSize):
                    by_blocks(market, (None,) * market.size(), draws, steps - 1)

    def test_up_to_so_many_times(self):
        self.assertEqual(by_blocks(self.market, (None, None), (0,), 2), (1, 0))
        for most in (1, 0):
            with self.assertRaises(BadSize):
                by_blocks(self.market, (None, None), (0,), most)

    def test_up_to_two_hundred_times_where_nothing_is_told(self):
        # Taking the second pair each time goes round and round here.
        orders = ((0, 1, 2), (0, 1, 2), (2, 0, 1))
        market = Market(((2, 1, 0), (2, 0, 1), (0, 2, 1)), orders, (1, 1, 1))
        with self.assertRaises(BadSize):
            by_blocks(market, (None, None, None), (1,))
        with self.assertRaises(BadSize):
            by_blocks(market, (None, None, None), (1,), 1000)
        self.assertTrue(is_stable(market, by_blocks(market, (None, None, None), (0,))))

    def test_just_two_hundred_times_are_done(self):
        # Each of 200 askers is put into its own room, one after another.
        many = 200
        rows = tuple((asker,) for asker in range(many))
        market = Market(rows, rows, (1,) * many)
        self.assertEqual(by_blocks(market, (None,) * many, (0,)), tuple(range(many)))
        more = tuple((asker,) for asker in range(many + 1))
        with self.assertRaises(BadSize):
            by_blocks(Market(more, more, (1,) * (many + 1)), (None,) * (many + 1), (0,))

    def test_changes_nothing_that_it_is_passed(self):
        match = [None, None]
        by_blocks(self.market, match, (0,))
        self.assertEqual(match, [None, None])


if __name__ == "__main__":
    unittest.main()
