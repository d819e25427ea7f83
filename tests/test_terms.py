"""Point 22, terms: contracts of askers and rooms, offered one by one, and what is stable then."""

import random
import unittest

from pairmart.asks import ask_all
from pairmart.errors import BadWish
from pairmart.markets import Market
from pairmart.terms import Deals, as_match, plain_deals
from small import all_lots, place, some_list, some_markets, stable_ones


def shuffled(chance, ones):
    """Some of some, mostly all, by chance."""
    return tuple(ones[number] for number in some_list(chance, len(ones)))


def some_deals(count, seed):
    """(contracts, lists, orders, seats) of few askers and rooms, the same ones for the same seed."""
    chance = random.Random(seed)
    found = []
    for _ in range(count):
        askers, rooms = chance.randint(0, 3), chance.randint(0, 3)
        can = [(asker, room, term) for asker in range(askers) for room in range(rooms) for term in range(2)]
        contracts = tuple(chance.sample(can, chance.randint(0, min(6, len(can)))))
        lists = tuple(shuffled(chance, [one for one, told in enumerate(contracts) if told[0] == asker])
                      for asker in range(askers))
        orders = tuple(shuffled(chance, [one for one, told in enumerate(contracts) if told[1] == room])
                       for room in range(rooms))
        found.append((contracts, lists, orders, tuple(chance.choice((0, 1, 1, 2)) for _ in range(rooms))))
    return found


def chosen(deals, room, ones):
    """What a room takes of some contracts, by the document's words."""
    contracts, _, orders, seats = deals
    taken = []
    for one in orders[room]:
        owners = [contracts[other][0] for other in taken]
        if one in ones and contracts[one][0] not in owners and len(taken) < seats[room]:
            taken.append(one)
    return taken


def had(deals, taken, asker):
    """An asker's contract among some, None for none."""
    return next((one for one in taken if deals[0][one][0] == asker), None)


def blocking(deals, taken):
    """The contracts that block, by the document's words."""
    contracts, lists, _, _ = deals
    found = []
    for one, (asker, room, _) in enumerate(contracts):
        wished = one in lists[asker] and place(lists[asker], one) < place(lists[asker], had(deals, taken, asker))
        inside = [other for other in taken if contracts[other][1] == room]
        if wished and one in chosen(deals, room, inside + [one]):
            found.append(one)
    return tuple(found)


def stable(deals, taken):
    """Whether contracts are stable, by the document's words."""
    contracts, lists, orders, _ = deals
    owners = [contracts[one][0] for one in taken]
    listed = all(one in lists[contracts[one][0]] for one in taken)
    kept = sorted(one for room in range(len(orders)) for one in chosen(deals, room, taken)) == sorted(taken)
    return len(set(owners)) == len(owners) and listed and kept and blocking(deals, taken) == ()


# Two contracts of asker 0 and one of asker 1, all in room 0 of one seat; one more of asker 1 in room 1.
CONTRACTS = ((0, 0, 0), (0, 0, 1), (1, 0, 0), (1, 1, 0))
LISTS = ((0, 1), (2, 3))


class Listing(unittest.TestCase):

    def test_what_is_refused(self):
        for lists, orders in (
            (((0, 0), ()), ((), ())),
            (((4,), ()), ((), ())),
            (((-1,), ()), ((), ())),
            (((2,), ()), ((), ())),
            (((), (0,)), ((), ())),
            ((LISTS), ((3,), ())),
            ((LISTS), ((0, 0), ())),
            ((LISTS), ((4,), ())),
            ((LISTS), ((), (-1,))),
            ((LISTS), ((), (0,))),
        ):
            with self.assertRaises(BadWish):
                Deals(CONTRACTS, lists, orders, (1, 1))

    def test_check(self):
        deals = Deals(CONTRACTS, LISTS, ((1, 2, 0), (3,)), (1, 1))
        self.assertIsNone(deals.check(deals.lists[0], 0, 0))
        self.assertIsNone(deals.check(deals.orders[1], 1, 1))
        for wish, at, who in ((deals.lists[0], 0, 1), (deals.orders[1], 1, 0), (deals.lists[1], 1, 0)):
            with self.assertRaises(BadWish):
                deals.check(wish, at, who)

    def test_bare_lists(self):
        deals = Deals(CONTRACTS, ((), ()), ((), ()), (1, 1))
        self.assertEqual(deals.offers(), ())
        self.assertTrue(deals.is_stable(()))
        self.assertEqual(Deals((), (), (), ()).offers(), ())
        self.assertTrue(Deals((), (), (), ()).is_stable(()))


class Choosing(unittest.TestCase):

    def test_choose(self):
        deals = Deals(CONTRACTS, LISTS, ((1, 0, 2), (3,)), (2, 1))
        # Two of one asker are taken as one.
        self.assertEqual(deals.choose(0, (0, 1, 2)), (1, 2))
        self.assertEqual(deals.choose(0, (2, 0)), (0, 2))
        self.assertEqual(deals.choose(0, ()), ())
        self.assertEqual(deals.choose(1, (0, 1, 2, 3)), (3,))

    def test_choose_by_seats_and_order(self):
        self.assertEqual(Deals(CONTRACTS, LISTS, ((1, 2, 0), ()), (1, 1)).choose(0, (2, 1)), (1,))
        self.assertEqual(Deals(CONTRACTS, LISTS, ((2, 0), ()), (2, 1)).choose(0, (0, 1, 2)), (2, 0))
        self.assertEqual(Deals(CONTRACTS, LISTS, ((2, 0), ()), (0, 1)).choose(0, (0, 1, 2)), ())
        self.assertEqual(Deals(CONTRACTS, LISTS, ((2, 0), ()), (2, 1)).choose(1, (3,)), ())

    def test_each_choice(self):
        for told in some_deals(60, 2201):
            deals = Deals(*told)
            for ones in all_lots(len(told[0])):
                for room in range(len(told[2])):
                    self.assertEqual(deals.choose(room, ones), tuple(chosen(told, room, ones)))

    def test_kept_by(self):
        deals = Deals(CONTRACTS, LISTS, ((1, 2, 0), (3,)), (1, 1))
        self.assertEqual(deals.kept_by((3, 0, 2)), (2, 3))
        self.assertEqual(deals.kept_by([3, 0, 2, 1]), (1, 3))
        self.assertEqual(deals.kept_by(()), ())
        # Told in order of their numbers, whatever the rooms'.
        self.assertEqual(Deals(((1, 1, 0), (0, 0, 0)), ((1,), (0,)), ((1,), (0,)), (1, 1)).kept_by((1, 0)), (0, 1))

    def test_of_asker(self):
        deals = Deals(CONTRACTS, LISTS, ((1, 2, 0), (3,)), (1, 1))
        self.assertEqual([deals.of_asker((3, 1), asker) for asker in (0, 1)], [1, 3])
        self.assertEqual([deals.of_asker((0,), asker) for asker in (0, 1)], [0, None])
        self.assertIsNone(deals.of_asker((), 0))


class Offering(unittest.TestCase):

    def test_free_asker(self):
        deals = Deals(CONTRACTS, LISTS, ((1, 2, 0), (3,)), (1, 1))
        self.assertEqual(deals.free_asker([], [0, 0]), 0)
        self.assertEqual(deals.free_asker([0], [1, 0]), 1)
        self.assertEqual(deals.free_asker([0, 2], [1, 1]), 0)
        self.assertEqual(deals.free_asker([0, 2, 1], [2, 1]), 1)
        self.assertIsNone(deals.free_asker([0, 2, 1, 3], [2, 2]))
        self.assertIsNone(deals.free_asker([0, 2], [2, 1]))

    def test_offers(self):
        # 0 is refused by its first contract's room, and gets in by its second, which sends 1 to its other room.
        deals = Deals(CONTRACTS, LISTS, ((1, 2, 0), (3,)), (1, 1))
        self.assertEqual(deals.offers(), (1, 3))
        self.assertEqual(Deals(CONTRACTS, LISTS, ((2, 1, 0), (3,)), (1, 1)).offers(), (2,))
        self.assertEqual(Deals(CONTRACTS, LISTS, ((2, 1, 0), (3,)), (2, 0)).offers(), (0, 2))

    def test_each_lot_of_contracts(self):
        for told in some_deals(150, 2202):
            deals = Deals(*told)
            can = []
            for taken in all_lots(len(told[0])):
                is_so = stable(told, taken)
                self.assertEqual(deals.is_stable(taken), is_so, (told, taken))
                owners = [told[0][one][0] for one in taken]
                if len(set(owners)) == len(owners):
                    self.assertEqual(deals.blocks(taken), blocking(told, taken))
                if is_so:
                    can.append(taken)
            found = deals.offers()
            self.assertIn(found, can)
            for asker, order in enumerate(told[1]):
                places = [place(order, had(told, taken, asker)) for taken in can]
                self.assertEqual(place(order, had(told, found, asker)), min(places))

    def test_blocks_beside_another_contract_of_the_same_two(self):
        # Asker and room both would rather have the other term.
        deals = Deals(CONTRACTS, LISTS, ((0, 1, 2), (3,)), (1, 1))
        self.assertEqual(deals.blocks((1, 3)), (0,))
        self.assertEqual(deals.blocks((0, 3)), ())
        deals = Deals(CONTRACTS, LISTS, ((1, 0, 2), (3,)), (1, 1))
        self.assertEqual(deals.blocks((1, 3)), ())
        self.assertEqual(deals.blocks(()), (0, 1, 2, 3))

    def test_what_is_not_stable(self):
        deals = Deals(CONTRACTS, LISTS, ((1, 2, 0), (3,)), (1, 1))
        self.assertTrue(deals.is_stable((3, 1)))
        # Two of one asker; too many for the room; told twice; not there.
        for taken in ((0, 1, 3), (1, 2), (1, 1, 3), (1, 4), (1, 3, -1), (0, 3), (1,)):
            self.assertFalse(deals.is_stable(taken), taken)
        self.assertFalse(Deals(CONTRACTS, ((1,), (2, 3)), ((0, 1, 2), (3,)), (1, 1)).is_stable((0, 3)))
        self.assertFalse(Deals(CONTRACTS, LISTS, ((1, 2), (3,)), (2, 1)).is_stable((0, 2)))


class Plain(unittest.TestCase):

    def test_a_market_as_contracts(self):
        market = Market(((1, 0), (0, 1)), ((1, 0), (0,)), (1, 2))
        deals = plain_deals(market)
        self.assertEqual([told[:2] for told in deals.contracts], [(0, 1), (0, 0), (1, 0)])
        self.assertEqual(len({told[2] for told in deals.contracts}), 1)
        self.assertEqual([wish.order for wish in deals.lists], [(0, 1), (2,)])
        self.assertEqual([wish.order for wish in deals.orders], [(2, 1), (0,)])
        self.assertEqual(tuple(deals.seats), (1, 2))
        self.assertEqual(plain_deals(Market((), (), ())).contracts, ())

    def test_as_match(self):
        deals = Deals(CONTRACTS, LISTS, ((1, 2, 0), (3,)), (1, 1))
        self.assertEqual(as_match(deals, (3, 1)), (0, 1))
        self.assertEqual(as_match(deals, (3,)), (None, 1))
        self.assertEqual(as_match(deals, ()), (None, None))

    def test_both_find_the_same(self):
        for market in some_markets(120, 2203):
            deals = plain_deals(market)
            self.assertEqual(as_match(deals, deals.offers()), ask_all(market))
        for market in some_markets(40, 2204, askers=3, rooms=3):
            deals = plain_deals(market)
            found = [as_match(deals, taken) for taken in all_lots(len(deals.contracts)) if deals.is_stable(taken)]
            self.assertEqual(sorted(found, key=repr), sorted(stable_ones(market), key=repr))


if __name__ == "__main__":
    unittest.main()
