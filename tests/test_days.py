"""Point 25, days: a fair by words, what stands after each deed, who asks anew, and what is refused."""

import random
import unittest

from fairs import ASKERS, ROOMS, best_of, done, fair_of, hanging, market_of, some_deed, some_deeds, state
from pairmart.asks import many_asks
from pairmart.days import Fair, check_words
from pairmart.errors import BadDeed, BadRoom, BadWish, MarketFault, NoSuch


class Watched(Fair):
    """A fair that notes who asks."""

    def __init__(self):
        Fair.__init__(self)
        self.noted = []

    def ask(self, asker):
        self.noted.append(asker)
        return Fair.ask(self, asker)


def small_fair():
    """ann and bob want red more, red wants bob more; cat lists nothing."""
    fair = Fair()
    fair.open_room("red", ["bob", "ann"], 1)
    fair.open_room("blue", ["ann", "bob"], 1)
    fair.come("ann", ["red", "blue"])
    fair.come("bob", ["red", "blue"])
    fair.come("cat", [])
    return fair


class Words(unittest.TestCase):

    def test_check_words(self):
        self.assertEqual(check_words(["red", "blue"]), ("red", "blue"))
        self.assertEqual(check_words(()), ())
        for words in (("red", "red"), ["a", "b", "a"]):
            with self.assertRaises(BadWish):
                check_words(words)


class Deeds(unittest.TestCase):

    def test_come(self):
        fair = Fair()
        self.assertEqual(fair.come("bob", ["red"]), ())
        self.assertEqual(fair.open_room("red", ["ann", "bob"], 1), (("bob", None, "red"),))
        self.assertEqual(fair.come("ann", ["red"]), (("ann", None, "red"), ("bob", "red", None)))
        self.assertEqual(fair.come("cat", []), ())
        self.assertEqual(fair.match(), (("ann", "red"), ("bob", None), ("cat", None)))

    def test_leave(self):
        fair = small_fair()
        self.assertEqual(fair.leave("bob"), (("ann", "blue", "red"), ("bob", "red", None)))
        self.assertEqual(fair.leave("cat"), ())
        self.assertEqual(fair.match(), (("ann", "red"),))
        self.assertEqual(fair.leave("ann"), (("ann", "red", None),))
        self.assertEqual((fair.match(), fair.who_waits()), ((), []))

    def test_nothing_is_kept_of_who_is_gone(self):
        fair = small_fair()
        for asker in ("bob", "ann", "cat"):
            fair.leave(asker)
        fair.shut_room("red")
        fair.shut_room("blue")
        asked = fair.asks
        self.assertEqual(state(fair), {**state(Fair()), "asks": asked})

    def test_wish(self):
        fair = small_fair()
        self.assertEqual(fair.wish("bob", ["blue", "red"]), (("ann", "blue", "red"), ("bob", "red", "blue")))
        self.assertEqual(fair.wish("bob", []), (("bob", "blue", None),))
        self.assertEqual(fair.wish("bob", ["red"]), (("ann", "red", "blue"), ("bob", None, "red")))

    def test_open_and_shut(self):
        fair = small_fair()
        self.assertEqual(fair.shut_room("red"), (("bob", "red", None),))
        self.assertEqual(fair.match(), (("ann", "blue"), ("bob", None), ("cat", None)))
        self.assertEqual(fair.open_room("red", ["ann"], 1), (("ann", "blue", "red"), ("bob", None, "blue")))
        self.assertEqual(fair.shut_room("blue"), (("bob", "blue", None),))

    def test_change(self):
        fair = small_fair()
        self.assertEqual(fair.change_room("red", ["ann", "bob"], 2), (("ann", "blue", "red"),))
        self.assertEqual(fair.change_room("red", ["ann", "bob"], 1), (("bob", "red", "blue"),))
        self.assertEqual(fair.change_room("red", ["ann", "bob"], 0),
                         (("ann", "red", "blue"), ("bob", "blue", None)))
        self.assertEqual(fair.change_room("red", [], 5), ())

    def test_lists_and_orders_may_name_who_is_not_there_yet(self):
        fair = Fair()
        fair.come("ann", ["moon", "red", "blue"])
        fair.open_room("blue", ["zoe", "ann"], 1)
        self.assertEqual(fair.match(), (("ann", "blue"),))
        self.assertEqual(fair.come("zoe", ["moon", "blue"]), (("ann", "blue", None), ("zoe", None, "blue")))
        self.assertEqual(fair.open_room("moon", ["ann", "zoe"], 1), (("ann", None, "moon"),))

    def test_who_comes_back_is_as_new(self):
        fair = small_fair()
        fair.leave("bob")
        self.assertEqual(fair.come("bob", ["blue"]), (("bob", None, "blue"),))
        self.assertEqual(fair.shown()[0], (("ann", ("red", "blue")), ("bob", ("blue",)), ("cat", ())))

    def test_told(self):
        fair = small_fair()
        before = dict(fair.held)
        self.assertEqual(fair.told(before), ())
        self.assertEqual(fair.told({}), (("ann", None, "blue"), ("bob", None, "red")))
        self.assertEqual(fair.told({"ann": "red", "zoe": "blue", "yan": None, "bob": "red"}),
                         (("ann", "red", "blue"), ("zoe", "blue", None)))
        self.assertEqual(fair.told(fair.match()), ())


class Refusals(unittest.TestCase):

    def refused(self, fair, error, deed, *told):
        before = state(fair)
        with self.assertRaises(error) as caught:
            deed(*told)
        self.assertIs(type(caught.exception), error)
        self.assertEqual(state(fair), before)

    def test_what_is_not_due(self):
        fair = small_fair()
        self.refused(fair, BadDeed, fair.come, "ann", ["blue"])
        self.refused(fair, BadDeed, fair.open_room, "red", ["ann"], 1)
        self.refused(fair, NoSuch, fair.leave, "zoe")
        self.refused(fair, NoSuch, fair.wish, "zoe", ["red"])
        self.refused(fair, NoSuch, fair.shut_room, "moon")
        self.refused(fair, NoSuch, fair.change_room, "moon", ["ann"], 1)
        # Rooms are no askers, and askers no rooms.
        self.refused(fair, NoSuch, fair.leave, "red")
        self.refused(fair, NoSuch, fair.shut_room, "ann")

    def test_twice(self):
        fair = small_fair()
        fair.leave("ann")
        self.refused(fair, NoSuch, fair.leave, "ann")
        self.refused(fair, NoSuch, fair.wish, "ann", [])
        fair.shut_room("red")
        self.refused(fair, NoSuch, fair.shut_room, "red")
        self.refused(fair, NoSuch, fair.change_room, "red", [], 1)
        fair.come("ann", [])
        self.refused(fair, BadDeed, fair.come, "ann", [])
        fair.open_room("red", [], 0)
        self.refused(fair, BadDeed, fair.open_room, "red", [], 0)

    def test_words_told_twice(self):
        fair = small_fair()
        self.refused(fair, BadWish, fair.come, "zoe", ["red", "blue", "red"])
        self.refused(fair, BadWish, fair.wish, "ann", ["red", "red"])
        self.refused(fair, BadWish, fair.open_room, "moon", ["ann", "ann"], 1)
        self.refused(fair, BadWish, fair.change_room, "red", ["ann", "bob", "ann"], 1)
        # Also where the list begins as the one that stands.
        self.refused(fair, BadWish, fair.wish, "bob", ["red", "blue", "blue"])

    def test_seats_below_nought(self):
        fair = small_fair()
        for count in (-1, -7):
            self.refused(fair, BadRoom, fair.open_room, "moon", ["ann"], count)
            self.refused(fair, BadRoom, fair.change_room, "red", ["ann"], count)
            self.refused(fair, BadRoom, fair.set_room, "red", ["ann"], count)
            self.refused(fair, BadRoom, fair.set_room, "moon", ["ann"], count)

    def test_seats_of_nought(self):
        fair = Fair()
        fair.come("ann", ["red", "blue"])
        self.assertEqual(fair.open_room("red", ["ann"], 0), ())
        self.assertEqual(fair.open_room("blue", ["ann"], 1), (("ann", None, "blue"),))
        self.assertEqual(fair.shown()[1], (("blue", ("ann",), 1), ("red", ("ann",), 0)))

    def test_set_room(self):
        fair = Fair()
        fair.set_room("red", ["ann"], 0)
        self.assertEqual(fair.shown()[1], (("red", ("ann",), 0),))
        fair.set_room("red", ["bob", "ann"], 2)
        self.assertEqual(fair.shown()[1], (("red", ("bob", "ann"), 2),))

    def test_each_refused_deed_of_many(self):
        chance = random.Random(2501)
        refused = 0
        for _ in range(40):
            fair = Fair()
            for _ in range(20):
                deed = some_deed(chance)
                if chance.random() < 0.2:
                    deed = deed[:2] + (deed[2] + deed[2][:1], -1 if deed[3] is not None else None)
                before = state(fair)
                try:
                    done(fair, deed)
                except MarketFault as fault:
                    refused += 1
                    self.assertEqual(state(fair), before)
                    there = deed[1] in dict(before["lists"], **before["orders"])
                    due = there != (deed[0] in ("come", "open"))
                    kinds = (BadWish, BadRoom) if due else ((BadDeed,) if there else (NoSuch,))
                    self.assertIn(type(fault), kinds, deed)
        self.assertGreater(refused, 100)


class Standing(unittest.TestCase):

    def check(self, fair):
        self.assertEqual(fair.match(), best_of(fair))
        self.assertEqual(fair.who_waits(), [])

    def test_after_each_deed_the_askers_best_stands(self):
        chance = random.Random(2502)
        changed = 0
        for _ in range(50):
            fair = Fair()
            for deed in some_deeds(chance, 25):
                before = dict(fair.match())
                answer = done(fair, deed)
                self.check(fair)
                now = dict(fair.match())
                self.assertEqual(answer, tuple(
                    (asker, before.get(asker), now.get(asker)) for asker in sorted({**before, **now})
                    if before.get(asker) != now.get(asker)), deed)
                changed += len(answer)
        self.assertGreater(changed, 300)

    def test_the_order_of_deeds_does_not_matter(self):
        chance = random.Random(2503)
        for _ in range(60):
            lists = [("come", asker, tuple(chance.sample(ROOMS, 3)), None) for asker in ASKERS]
            orders = [("open", room, tuple(chance.sample(ASKERS, 4)), chance.choice((0, 1, 1, 2))) for room in ROOMS]
            found = []
            for _ in range(4):
                deeds = lists + orders
                chance.shuffle(deeds)
                fair = fair_of(deeds)
                found.append((fair.match(), fair.shown()))
            self.assertEqual(found, found[:1] * 4)

    def test_askers_who_come_ask_as_often_as_all_at_once(self):
        # Nobody asks anew when askers come to rooms that are open.
        chance = random.Random(2504)
        for _ in range(40):
            deeds = [("open", room, tuple(chance.sample(ASKERS, 4)), chance.choice((0, 1, 2))) for room in ROOMS]
            deeds += [("come", asker, tuple(chance.sample(ROOMS, 3)), None) for asker in chance.sample(ASKERS, 4)]
            fair = fair_of(deeds)
            self.assertEqual(fair.asks, many_asks(market_of(fair)))

    def test_nobody_and_bare_lists(self):
        fair = Fair()
        self.assertEqual((fair.match(), fair.names(), fair.shown()), ((), ((), ()), ((), ())))
        self.assertEqual((fair.who_waits(), fair.part_of((), ()), fair.by_numbers(), fair.asks), ([], [], (), 0))
        self.assertEqual(fair.as_market().shown(), ((), (), ()))
        fair.go_on()
        fair.ask_anew(())
        fair.come("ann", [])
        fair.open_room("red", [], 3)
        self.assertEqual((fair.match(), fair.asks), ((("ann", None),), 0))
        fair.come("bob", ["red"])
        # Nobody gets anything.
        self.assertEqual((fair.match(), fair.asks), ((("ann", None), ("bob", None)), 1))


class Asking(unittest.TestCase):

    def test_likes(self):
        fair = small_fair()
        fair.come("dan", ["red", "moon"])
        self.assertTrue(fair.likes("ann", "red"))
        for asker, room in (("dan", "red"), ("cat", "red"), ("dan", "moon"), ("zoe", "red"), ("ann", "moon")):
            self.assertFalse(fair.likes(asker, room))
        fair.change_room("blue", ["zoe"], 1)
        self.assertFalse(fair.likes("ann", "blue"))
        self.assertFalse(fair.likes("zoe", "blue"))

    def test_those_in(self):
        fair = Fair()
        fair.open_room("red", ["cat", "ann", "bob"], 2)
        for asker in ("ann", "bob", "cat"):
            fair.come(asker, ["red"])
        self.assertEqual(fair.those_in("red"), ["cat", "ann"])
        self.assertEqual(fair.those_in("moon"), [])

    def test_ask_and_who_waits(self):
        fair = Fair()
        fair.set_room("red", ["bob", "ann"], 1)
        for asker, rooms in (("bob", ("moon", "red")), ("ann", ("red",)), ("cat", ("red",)), ("dan", ())):
            fair.lists[asker] = rooms
            fair.held[asker] = None
            fair.next[asker] = 0
        self.assertEqual(fair.who_waits(), ["ann", "bob", "cat"])
        self.assertIsNone(fair.ask("ann"))
        self.assertEqual(fair.who_waits(), ["bob", "cat"])
        self.assertEqual(fair.ask("bob"), "bob")
        self.assertEqual(fair.ask("cat"), "cat")
        self.assertEqual(fair.ask("bob"), "ann")
        self.assertEqual((fair.who_waits(), fair.asks), ([], 4))
        self.assertEqual(dict(fair.match()), {"ann": None, "bob": "red", "cat": None, "dan": None})

    def test_go_on(self):
        fair = Fair()
        fair.set_room("red", ["bob", "ann"], 1)
        for asker, rooms in (("ann", ("red",)), ("bob", ("moon", "red"))):
            fair.lists[asker] = rooms
            fair.held[asker] = None
            fair.next[asker] = 0
        fair.go_on()
        self.assertEqual((fair.match(), fair.asks), ((("ann", None), ("bob", "red")), 3))
        fair.go_on()
        self.assertEqual(fair.asks, 3)

    def test_ask_anew(self):
        fair = small_fair()
        asked = fair.asks
        fair.ask_anew(["ann", "bob"])
        self.assertEqual(fair.match(), best_of(fair))
        # red is asked by both, blue by who is refused.
        self.assertEqual(fair.asks, asked + 3)
        fair.ask_anew([])
        self.assertEqual(fair.asks, asked + 3)

    def test_part_of(self):
        fair = small_fair()
        fair.open_room("moon", ["dan", "eve"], 1)
        fair.come("dan", ["moon", "red"])
        fair.come("eve", ["moon"])
        self.assertEqual(fair.part_of(("ann",), ()), ["ann", "bob"])
        self.assertEqual(fair.part_of((), ("red",)), ["ann", "bob"])
        self.assertEqual(fair.part_of(("eve",), ()), ["dan", "eve"])
        self.assertEqual(fair.part_of(("eve",), ("blue",)), ["ann", "bob", "dan", "eve"])
        self.assertEqual(fair.part_of(("cat",), ()), ["cat"])
        self.assertEqual(fair.part_of(["zoe"], ["oak"]), [])
        self.assertEqual(fair.part_of((), ()), [])

    def test_part_of_goes_on_over_others(self):
        fair = Fair()
        for number, room in enumerate("abcd"):
            fair.open_room(room, [f"x{number}", f"x{number + 1}"], 1)
        for number in (4, 2, 0, 3, 1):
            fair.come(f"x{number}", [room for place, room in enumerate("abcd") if number in (place, place + 1)])
        self.assertEqual(fair.part_of(("x0",), ()), ["x0", "x1", "x2", "x3", "x4"])
        self.assertEqual(fair.part_of((), ("c",)), ["x0", "x1", "x2", "x3", "x4"])
        fair.wish("x2", ["c"])
        self.assertEqual(fair.part_of(("x0",), ()), ["x0", "x1"])

    def test_only_those_ask_who_hang_together_with_what_is_touched(self):
        chance = random.Random(2505)
        spared = 0
        for _ in range(60):
            fair = Watched()
            for deed in some_deeds(chance, 20, ("ann", "bob", "cat", "dan", "eve"), ("blue", "oak", "red", "sky")):
                touched = ((deed[1],), ()) if deed[3] is None and deed[0] != "shut" else ((), (deed[1],))
                before = hanging(fair, *touched)
                fair.noted = []
                asked = fair.asks
                done(fair, deed)
                after = hanging(fair, *touched)
                self.assertLessEqual(set(fair.noted), set(before) | set(after), deed)
                self.assertEqual(fair.asks - asked, len(fair.noted))
                self.assertEqual(fair.part_of(*touched), after)
                spared += len(fair.lists) - len(set(before) | set(after))
        self.assertGreater(spared, 300)

    def test_a_list_that_is_the_same_up_to_what_is_held_changes_nothing(self):
        fair = small_fair()
        asked = fair.asks
        held = dict(fair.held)
        # bob has its first; ann its second; cat and dan nothing.
        fair.come("dan", ["blue"])
        asked, held = fair.asks, dict(fair.held)
        for asker, rooms in (("bob", ["red"]), ("bob", ["red", "moon", "blue"]), ("ann", ["red", "blue", "moon"]),
                             ("cat", []), ("dan", ["blue"])):
            self.assertEqual(fair.wish(asker, rooms), ())
            self.assertEqual((fair.asks, fair.held), (asked, held))
            self.assertEqual(dict(fair.shown()[0])[asker], tuple(rooms))

    def test_each_such_list_of_small_fairs(self):
        chance = random.Random(2506)
        for _ in range(60):
            fair = fair_of(some_deeds(chance, 12))
            for asker, room in fair.match():
                order = fair.lists[asker]
                kept = order if room is None else order[:order.index(room) + 1]
                rest = [word for word in ROOMS if word not in kept] if room is not None else []
                before = state(fair)
                fair.wish(asker, kept + tuple(chance.sample(rest, chance.randint(0, len(rest)))))
                self.assertEqual((fair.held, fair.asks), (before["held"], before["asks"]))
                self.assertEqual(fair.match(), best_of(fair))

    def test_a_longer_list_of_one_who_has_nothing(self):
        fair = small_fair()
        fair.wish("cat", ["red"])
        fair.change_room("blue", ["ann", "cat"], 2)
        self.assertEqual(fair.wish("cat", ["red", "blue"]), (("cat", None, "blue"),))
        self.assertEqual(fair.match(), best_of(fair))
        # A shorter one counts as another list: what it stood in the way of may change.
        self.assertEqual(fair.wish("cat", []), (("cat", "blue", None),))

    def test_a_shorter_list_of_one_who_has_nothing_may_change_the_others(self):
        fair = Fair()
        fair.open_room("red", ["cat", "bob", "ann"], 1)
        fair.open_room("blue", ["ann", "cat"], 1)
        # bob asks red and keeps ann from it, is sent away by cat, who is sent away from blue by ann.
        fair.come("ann", ["red", "blue"])
        fair.come("bob", ["red"])
        fair.come("cat", ["blue", "red"])
        self.assertEqual(dict(fair.match()), {"ann": "blue", "bob": None, "cat": "red"})
        self.assertEqual(fair.wish("bob", []), (("ann", "blue", "red"), ("cat", "red", "blue")))


class Told(unittest.TestCase):

    def test_names_and_shown(self):
        fair = small_fair()
        self.assertEqual(fair.names(), (("ann", "bob", "cat"), ("blue", "red")))
        self.assertEqual(fair.shown(), (
            (("ann", ("red", "blue")), ("bob", ("red", "blue")), ("cat", ())),
            (("blue", ("ann", "bob"), 1), ("red", ("bob", "ann"), 1)),
        ))

    def test_as_market_and_by_numbers(self):
        fair = small_fair()
        fair.wish("cat", ["moon", "blue", "red"])
        fair.change_room("blue", ["zoe", "cat", "ann"], 2)
        market = fair.as_market()
        self.assertEqual(market.shown(), (((1, 0), (1, 0), (0, 1)), ((2, 0), (1, 0)), (2, 1)))
        self.assertEqual(fair.by_numbers(), (0, 1, 0))
        fair.shut_room("red")
        self.assertEqual(fair.as_market().shown(), (((0,), (0,), (0,)), ((2, 0),), (2,)))
        self.assertEqual(fair.by_numbers(), (0, None, 0))

    def test_each_of_small_fairs(self):
        chance = random.Random(2507)
        for _ in range(60):
            fair = fair_of(some_deeds(chance, 14))
            askers, rooms = fair.names()
            self.assertEqual(fair.as_market().shown(), market_of(fair).shown())
            self.assertEqual(fair.by_numbers(), tuple(
                None if room is None else rooms.index(room) for _, room in fair.match()))
            self.assertEqual(tuple(asker for asker, _ in fair.match()), askers)


if __name__ == "__main__":
    unittest.main()
