"""Point 21, kept seats: rooms that keep seats for kinds, whom they choose, and what is stable then."""

import random
import unittest
from itertools import product

from pairmart.errors import BadRoom, BadWish
from pairmart.kept import KeptMarket, Keeper, is_steady, kept_taken
from small import all_lots, place, some_list

KINDS = {0: "a", 1: "b", 2: "a", 3: "b", 4: "c"}


def some_keeper(chance, many, kinds="abc"):
    """(order, seats, kept seats) of a room among so many askers."""
    seats = chance.randint(0, 3)
    keeps = []
    left = seats
    for kind in chance.sample(kinds, chance.randint(0, len(kinds))):
        count = chance.randint(0, left)
        left -= count
        keeps.append((kind, count))
    return (some_list(chance, many), seats, tuple(keeps))


def some_kept(count, seed):
    """(lists, kinds, rooms) of small markets of kept seats, the same ones for the same seed."""
    chance = random.Random(seed)
    found = []
    for _ in range(count):
        askers, rooms = chance.randint(0, 4), chance.randint(0, 3)
        lists = tuple(some_list(chance, rooms) for _ in range(askers))
        kinds = tuple(chance.choice("abc") for _ in range(askers))
        found.append((lists, kinds, tuple(some_keeper(chance, askers) for _ in range(rooms))))
    return found


def market_of(lists, kinds, rooms):
    """The market of told rows."""
    return KeptMarket(lists, kinds, [Keeper(*room) for room in rooms])


def chosen(room, ones, kinds):
    """Whom a room takes of some, by the document's words, as a set."""
    order, seats, keeps = room
    taken = []
    for kind, count in keeps:
        taken += [one for one in order if one in ones and kinds[one] == kind and one not in taken][:count]
    return set(taken + [one for one in order if one in ones and one not in taken][:seats - len(taken)])


def blocking(lists, kinds, rooms, match):
    """The pairs that block a matching, by the document's words."""
    found = []
    for asker, order in enumerate(lists):
        for room in order:
            inside = [one for one, had in enumerate(match) if had == room]
            if place(order, room) < place(order, match[asker]) and asker in chosen(rooms[room], inside + [asker], kinds):
                found.append((asker, room))
    return tuple(found)


def stable(lists, kinds, rooms, match):
    """Whether a matching is stable, by the document's words."""
    for asker, room in enumerate(match):
        if room is not None and room not in lists[asker]:
            return False
    for number, room in enumerate(rooms):
        inside = {one for one, had in enumerate(match) if had == number}
        if chosen(room, inside, kinds) != inside:
            return False
    return blocking(lists, kinds, rooms, match) == ()


class Choosing(unittest.TestCase):

    def test_kept_seats_first_then_the_rest(self):
        # 4 is worst of all but the only one of its kind; it is told in the room's order all the same.
        keeper = Keeper((0, 1, 2, 3, 4), 3, (("c", 1),))
        self.assertEqual(keeper.choose((0, 1, 2, 3, 4), KINDS), (0, 1, 4))
        self.assertEqual(keeper.refuses((0, 1, 2, 3, 4), KINDS), (2, 3))
        keeper = Keeper((4, 3, 2, 1, 0), 2, (("a", 1), ("b", 1)))
        self.assertEqual(keeper.choose((0, 1, 2, 3, 4), KINDS), (3, 2))
        self.assertEqual(keeper.refuses((4, 1, 0, 2, 3), KINDS), (0, 1, 4))

    def test_kept_seats_that_nobody_takes_go_to_the_rest(self):
        keeper = Keeper((0, 1, 2, 3), 2, (("c", 2),))
        self.assertEqual(keeper.choose((3, 1, 0), KINDS), (0, 1))

    def test_no_kinds_kept(self):
        keeper = Keeper((2, 0, 1), 2, ())
        self.assertEqual(keeper.choose((0, 1, 2), KINDS), (2, 0))

    def test_kinds_nobody_has(self):
        keeper = Keeper((2, 0, 1), 2, (("x", 1), ("b", 1)))
        self.assertEqual(keeper.choose((0, 1, 2), KINDS), (2, 1))

    def test_no_seats_and_nobody(self):
        self.assertEqual(Keeper((0, 1), 0, (("a", 0),)).choose((0, 1), KINDS), ())
        self.assertEqual(Keeper((0, 1), 0, ()).refuses((1, 0), KINDS), (0, 1))
        self.assertEqual(Keeper((0, 1), 2, (("a", 1),)).choose((), KINDS), ())
        self.assertEqual(Keeper((), 2, ()).choose((0,), KINDS), ())

    def test_who_is_not_listed_is_refused(self):
        keeper = Keeper((1,), 3, (("a", 2),))
        self.assertEqual(keeper.choose((0, 1, 2), KINDS), (1,))
        self.assertEqual(keeper.refuses((2, 0, 1), KINDS), (0, 2))

    def test_a_kind_told_twice_is_kept_seats_for_twice(self):
        keeper = Keeper((0, 1, 2, 4), 3, (("b", 1), ("a", 1), ("a", 1)))
        self.assertEqual(keeper.choose((0, 1, 2, 4), KINDS), (0, 1, 2))

    def test_kinds_may_be_told_by_place(self):
        self.assertEqual(Keeper((0, 1), 1, (("b", 1),)).choose([0, 1], ("a", "b")), (1,))

    def test_each_choice_of_small_rooms(self):
        chance = random.Random(2101)
        for _ in range(150):
            room = some_keeper(chance, 5)
            for ones in all_lots(5):
                taken = Keeper(*room).choose(ones, KINDS)
                self.assertEqual(set(taken), chosen(room, ones, KINDS))
                self.assertEqual(taken, tuple(one for one in room[0] if one in taken))
                self.assertEqual(Keeper(*room).refuses(ones, KINDS), tuple(one for one in ones if one not in taken))

    def test_wrong_seats_are_refused(self):
        for seats, keeps in ((-1, ()), (1, (("a", -1),)), (1, (("a", 2),)), (2, (("a", 2), ("b", 1))),
                             (2, (("a", 3), ("b", -1))), (0, (("a", 1),))):
            with self.assertRaises(BadRoom):
                Keeper((0, 1), seats, keeps)
        self.assertEqual(Keeper((0, 1), 2, [["a", 1], ["b", 1]]).keeps, (("a", 1), ("b", 1)))


class Steadiness(unittest.TestCase):

    def test_rooms_are_steady(self):
        chance = random.Random(2102)
        for _ in range(40):
            keeper = Keeper(*some_keeper(chance, 5))
            for ones in all_lots(5):
                for gone in all_lots(5)[::5]:
                    self.assertTrue(is_steady(keeper, ones, KINDS, gone))

    def test_a_room_that_takes_back_whom_it_refused_is_not(self):

        class Fickle(Keeper):
            """It takes nobody where there are fewer than three."""

            def choose(self, ones, kinds):
                return Keeper.choose(self, ones, kinds) if len(ones) > 2 else ()

        self.assertFalse(is_steady(Fickle((0, 1, 2), 3, ()), (0, 1, 2), KINDS, (2,)))
        self.assertTrue(is_steady(Fickle((0, 1, 2), 3, ()), (0, 1, 2), KINDS, ()))

    def test_fewer_are_those_who_are_not_gone(self):

        class Shy(Keeper):
            """It takes nobody where just 2 asks."""

            def choose(self, ones, kinds):
                return () if tuple(ones) == (2,) else Keeper.choose(self, ones, kinds)

        self.assertTrue(is_steady(Shy((0, 1, 2), 3, ()), (0, 1, 2), KINDS, (2,)))
        self.assertFalse(is_steady(Shy((0, 1, 2), 3, ()), (0, 1, 2), KINDS, (0, 1)))

    def test_a_room_that_looks_at_the_refused_is_not(self):

        class Proud(Keeper):
            """It takes its best but one where it may refuse somebody."""

            def choose(self, ones, kinds):
                return tuple(sorted(ones)[1:2])

        self.assertFalse(is_steady(Proud((0, 1, 2), 1, ()), (0, 1, 2), KINDS, ()))

    def test_kept_taken(self):
        keeper = Keeper((0, 1, 2), 3, (("b", 1), ("x", 0), ("a", 2)))
        self.assertEqual(kept_taken(keeper, (0, 2, 4), KINDS), (("b", 0), ("x", 0), ("a", 2)))
        self.assertEqual(kept_taken(keeper, (), KINDS), (("b", 0), ("x", 0), ("a", 0)))
        self.assertEqual(kept_taken(Keeper((0,), 1, ()), (0,), KINDS), ())


class Markets(unittest.TestCase):

    def test_what_is_refused(self):
        keeper = Keeper((0,), 1, ())
        for kinds in ((), ("a", "b")):
            with self.assertRaises(BadRoom):
                KeptMarket(((0,),), kinds, (keeper,))
        for order in ((1,), (0, 0), (-1,)):
            with self.assertRaises(BadWish):
                KeptMarket((order,), ("a",), (keeper,))

    def test_taken(self):
        market = market_of(((0,), (1,), (0,)), "abc", (((0, 2), 2, ()), ((1,), 1, ())))
        self.assertEqual([market.taken((0, 1, 0), room) for room in (0, 1)], [(0, 2), (1,)])
        self.assertEqual(market.taken((None, None, None), 0), ())

    def test_kept_seats_change_who_has_a_room(self):
        lists, kinds = ((0, 1), (0, 1), (0, 1)), ("a", "a", "b")
        bare = market_of(lists, kinds, (((0, 1, 2), 2, ()), ((0, 1, 2), 1, ())))
        self.assertEqual(bare.ask_all(), (0, 0, 1))
        kept = market_of(lists, kinds, (((0, 1, 2), 2, (("b", 1),)), ((0, 1, 2), 1, ())))
        self.assertEqual(kept.ask_all(), (0, 1, 0))
        self.assertEqual(kept.blocks((0, 0, 1)), ((2, 0),))
        self.assertTrue(kept.is_stable((0, 1, 0)))

    def test_nobody_and_no_rooms(self):
        self.assertEqual(KeptMarket((), (), ()).ask_all(), ())
        self.assertTrue(KeptMarket((), (), ()).is_stable(()))
        self.assertEqual(KeptMarket(((), ()), ("a", "a"), ()).ask_all(), (None, None))
        self.assertEqual(KeptMarket((), (), (Keeper((), 1, ()),)).ask_all(), ())

    def test_blocks_are_told_in_the_askers_order(self):
        market = market_of(((1, 0), (0, 1)), "ab", (((0, 1), 1, ()), ((1, 0), 2, ())))
        self.assertEqual(market.blocks((None, None)), ((0, 1), (0, 0), (1, 0), (1, 1)))
        self.assertEqual(market.blocks((0, None)), ((0, 1), (1, 1)))

    def test_what_is_not_stable(self):
        market = market_of(((0,), (0, 1)), "ab", (((0, 1), 1, ()), ((1,), 1, ())))
        self.assertTrue(market.is_stable((0, 1)))
        # Not listed by the asker; not listed by the room; too many inside; another length; rooms that aren't there.
        for match in ((1, 0), (None, 1), (0, 0), (0, None), (0,), (0, 1, None), (0, 2), (-1, 1)):
            self.assertFalse(market.is_stable(match), match)
        market = market_of(((0, 1), (0,)), "ab", (((1,), 2, ()), ((0,), 1, ())))
        self.assertFalse(market.is_stable((0, 0)))
        self.assertTrue(market.is_stable((1, 0)))

    def test_each_matching_of_small_markets(self):
        for lists, kinds, rooms in some_kept(60, 2103):
            market = market_of(lists, kinds, rooms)
            can = []
            for match in product((None, *range(len(rooms))), repeat=len(lists)):
                self.assertEqual(market.blocks(match), blocking(lists, kinds, rooms, match))
                is_so = stable(lists, kinds, rooms, match)
                self.assertEqual(market.is_stable(match), is_so)
                if is_so:
                    can.append(match)
            found = market.ask_all()
            self.assertIn(found, can)
            # Each asker has the best it can have in any stable matching.
            for asker, order in enumerate(lists):
                self.assertEqual(place(order, found[asker]), min(place(order, match[asker]) for match in can))


if __name__ == "__main__":
    unittest.main()
