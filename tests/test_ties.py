"""Point 10: ties."""

import random
import unittest

from pairmart.asks import ask_all
from pairmart.errors import BadPaper, BadWish
from pairmart.ties import Strong, Tied, check_none, gone_pairs, some_weak, strongest
from small import all_matches, place, some_tied, strong_ones, tied_blocks, weak_ones


class Ties(unittest.TestCase):

    def setUp(self):
        # Room 0 lists askers 0 and 1 alike, then 2; room 1 doesn't list asker 0; room 2 lists all alike.
        self.lists = ((0, 1), (0, 2), (2, 0, 1))
        self.orders = (((0, 1), (2,)), ((2,), (1,)), ((0, 1, 2),))
        self.tied = Tied(self.lists, self.orders)

    def test_fields(self):
        tied = Tied([[0, 1], [0]], [[[1, 0]], [[0], [1]]])
        self.assertEqual(tied.lists, ((0, 1), (0,)))
        self.assertEqual(tied.orders, (((0, 1),), ((0,), (1,))))
        self.assertEqual(tied.ranks, ({0: 0, 1: 0}, {0: 0, 1: 1}))

    def test_refuses(self):
        for lists, orders in ((((0, 0),), (((0,),),)), (((1,),), (((0,),),)), (((-1,),), (((0,),),)),
                              (((0,),), (((0,), (0,)),)), (((0,),), (((1,),),)), (((0,),), (((0,), ()),)),
                              (((0,),), (((0, 0),),))):
            with self.assertRaises(BadWish):
                Tied(lists, orders)

    def test_likes(self):
        liked = [(asker, room) for asker in range(3) for room in range(3) if self.tied.likes(asker, room)]
        self.assertEqual(liked, [(0, 0), (1, 0), (1, 2), (2, 0), (2, 1), (2, 2)])

    def test_wants(self):
        match = (1, None, 2)
        wanted = [(asker, room) for asker in range(3) for room in range(3) if self.tied.wants(asker, room, match)]
        self.assertEqual(wanted, [(0, 0), (1, 0), (1, 2)])
        self.assertIs(self.tied.wants(0, 1, (2, None, None)), True)
        self.assertIs(self.tied.wants(0, 2, (None, None, None)), False)

    def test_room_has(self):
        self.assertEqual(self.tied.room_has(2, (0, 2, None)), 1)
        self.assertEqual(self.tied.room_has(0, [0, 2, None]), 0)
        self.assertIsNone(self.tied.room_has(1, (0, 2, None)))

    def test_prefers(self):
        for even in (True, False):
            self.assertIs(self.tied.prefers(0, 0, (None, None, 0), even), True)
            self.assertIs(self.tied.prefers(0, 2, (0, None, None), even), False)
            self.assertIs(self.tied.prefers(0, 0, (None, 0, None), even), even)
            self.assertIs(self.tied.prefers(0, 2, (None, None, None), even), True)
            self.assertIs(self.tied.prefers(1, 0, (None, None, None), even), False)
            self.assertIs(self.tied.prefers(1, 1, (1, None, None), even), True)
            self.assertIs(self.tied.prefers(1, 0, (None, 1, None), even), False)

    def test_blocks(self):
        self.assertEqual(self.tied.blocks((None, None, None), False), ((0, 0), (1, 0), (1, 2), (2, 2), (2, 0), (2, 1)))
        self.assertEqual(self.tied.blocks((0, 2, 1), False), ())
        self.assertEqual(self.tied.blocks((0, 2, 1), True), ((1, 0), (2, 2)))

    def test_wanted(self):
        self.assertIs(self.tied.wanted((0, 2, 1)), True)
        self.assertIs(self.tied.wanted((None, None, None)), True)
        self.assertIs(self.tied.wanted((0, 0, None)), False)
        self.assertIs(self.tied.wanted((1, None, None)), False)
        self.assertIs(self.tied.wanted((2, None, None)), False)
        self.assertIs(self.tied.wanted((None, 1, None)), False)
        self.assertIs(self.tied.wanted((3, None, None)), False)

    def test_is_weak_and_is_strong(self):
        self.assertIs(self.tied.is_weak((0, 2, 1)), True)
        self.assertIs(self.tied.is_strong((0, 2, 1)), False)
        self.assertIs(self.tied.is_weak((0, None, 1)), False)
        lone = Tied(((0,),), (((0,),),))
        self.assertIs(lone.is_strong((0,)), True)
        self.assertIs(lone.is_strong((None,)), False)

    def test_who_is_not_wanted_is_neither(self):
        for lists, orders in ((((),), (((0,),),)), (((0,),), ((),))):
            tied = Tied(lists, orders)
            self.assertIs(tied.is_weak((0,)), False)
            self.assertIs(tied.is_strong((0,)), False)
        two = Tied(((0,), (0,)), (((0, 1),),))
        self.assertIs(two.is_weak((0, 0)), False)
        self.assertIs(two.is_strong((0, 0)), False)

    def test_by_the_words_for_all_matchings(self):
        for lists, orders in some_tied(60, 121, askers=3, rooms=3):
            tied = Tied(lists, orders)
            for match in all_matches(len(lists), [1] * len(orders)):
                self.assertIs(tied.is_strong(match), match in strong_ones(lists, orders))
                self.assertIs(tied.is_weak(match), match in weak_ones(lists, orders))
                if tied.wanted(match):
                    for even in (True, False):
                        self.assertEqual(tied.blocks(match, even), tuple(tied_blocks(lists, orders, match, even)))

    def test_strict(self):
        market = self.tied.strict([2, 1, 0])
        self.assertEqual(market.shown(), (self.lists, ((1, 0, 2), (2, 1), (2, 1, 0)), (1, 1, 1)))
        self.assertEqual(self.tied.strict((0, 1, 2)).shown()[1], ((0, 1, 2), (2, 1), (0, 1, 2)))
        for draw in ((0, 1), (), (1, 2, 3)):
            with self.assertRaises(BadWish):
                self.tied.strict(draw)

    def test_some_weak(self):
        self.assertEqual(some_weak(self.tied, (0, 1, 2)), (0, 2, 1))
        self.assertEqual(some_weak(self.tied, [2, 1, 0]), (None, 0, 2))
        with self.assertRaises(BadWish):
            some_weak(self.tied, (0, 1))

    def test_some_weak_is_weakly_stable_whatever_the_draw(self):
        chance = random.Random(122)
        for lists, orders in some_tied(100, 123):
            draw = chance.sample(range(len(lists)), len(lists))
            tied = Tied(lists, orders)
            self.assertIn(some_weak(tied, draw), weak_ones(lists, orders))
            self.assertEqual(some_weak(tied, draw), ask_all(tied.strict(draw)))


class StrongestOnes(unittest.TestCase):

    def setUp(self):
        self.tied = Tied(((0, 1), (0, 1), (1, 2, 3)), (((2,), (0, 1)), ((2,), (1,), (0,)), ((2,),), ()))

    def test_fields(self):
        strong = Strong(self.tied)
        self.assertIs(strong.tied, self.tied)
        self.assertEqual(strong.left, [[0, 1], [0, 1], [1, 2]])
        self.assertEqual(strong.inside, [[], [], [], []])
        self.assertEqual(strong.asked, [False, False, False, False])
        self.assertEqual(strong.gone, [])

    def test_a_lower_group_is_dropped_and_two_alike_drop_their_group(self):
        strong = Strong(self.tied)
        self.assertIsNone(strong.ask(0))
        self.assertEqual((strong.inside[0], strong.gone), ([0], []))
        self.assertIsNone(strong.ask(1))
        self.assertEqual(strong.inside, [[], [], [], []])
        self.assertEqual(strong.asked, [True, False, False, False])
        self.assertEqual(strong.left, [[1], [1], [1, 2]])
        self.assertEqual(strong.gone, [(0, 0), (1, 0)])
        strong.ask(1)
        self.assertEqual(strong.inside, [[], [1], [], []])
        self.assertEqual(strong.left, [[], [1], [1, 2]])
        strong.ask(2)
        self.assertEqual(strong.inside, [[], [2], [], []])
        self.assertEqual(strong.left, [[], [], [1, 2]])
        self.assertEqual(strong.gone, [(0, 0), (1, 0), (0, 1), (1, 1)])

    def test_drop(self):
        strong = Strong(self.tied)
        strong.ask(0)
        self.assertIsNone(strong.drop(0, 0))
        self.assertEqual((strong.left[0], strong.inside[0], strong.gone), ([1], [], [(0, 0)]))
        strong.drop(0, 0)
        self.assertEqual(strong.gone, [(0, 0)])
        strong.drop(2, 1)
        self.assertEqual((strong.left[2], strong.gone), ([2], [(0, 0), (2, 1)]))

    def test_holds_and_still_asking(self):
        strong = Strong(self.tied)
        self.assertEqual(strong.still_asking(), [0, 1, 2])
        strong.ask(2)
        self.assertIs(strong.holds(2), True)
        self.assertIs(strong.holds(0), False)
        self.assertEqual(strong.still_asking(), [0, 1])
        self.assertEqual(Strong(Tied(((), (0,)), (((0,),),))).still_asking(), [])

    def test_go_on_and_match(self):
        strong = Strong(self.tied)
        self.assertEqual(strong.match(), (None, None, None))
        self.assertIsNone(strong.go_on())
        self.assertEqual(strong.match(), (None, None, 1))
        self.assertEqual(strong.still_asking(), [])

    def test_the_room_that_shows_that_there_is_none(self):
        # Room 0 is asked by two alike, who both go; nobody else is left for it.
        self.assertEqual(strongest(self.tied), (None, 0))
        self.assertIs(check_none(self.tied, 0), True)
        for room in (1, 2, 3, 4, 9, -1, -4):
            with self.assertRaises(BadPaper):
                check_none(self.tied, room)

    def test_no_room_from_the_end_on_shows_it(self):
        alike = Tied(((0,), (0,)), (((0, 1),),))
        self.assertEqual(strongest(alike), (None, 0))
        for room in (-1, 1):
            with self.assertRaises(BadPaper):
                check_none(alike, room)

    def test_the_first_such_room(self):
        two = Tied(((1,), (1,), (2,), (2,), (0,)), (((4,),), ((0, 1),), ((2, 3),)))
        self.assertEqual(strongest(two), (None, 1))
        self.assertIs(check_none(two, 1), True)
        self.assertIs(check_none(two, 2), True)
        with self.assertRaises(BadPaper):
            check_none(two, 0)

    def test_a_room_bare_as_nobody_that_it_lists_asked_it_shows_nothing(self):
        tied = Tied(((0,), ()), (((1,),), ((0,),)))
        self.assertEqual(strongest(tied), ((None, None), None))
        self.assertEqual(gone_pairs(tied), ())
        for room in (0, 1):
            with self.assertRaises(BadPaper):
                check_none(tied, room)

    def test_one_better_saves_a_room_that_two_alike_left(self):
        tied = Tied(((0, 1), (0,), (1, 0)), (((2,), (0, 1)), ((0,), (2,))))
        self.assertEqual(strongest(tied), ((1, None, 0), None))

    def test_gone_pairs_in_the_order_in_which_they_fall_off(self):
        tied = Tied(((0, 1), (0, 1), (1, 0), (0,)), (((2,), (0, 1), (3,)), ((0,), (2, 1))))
        # The first ask drops asker 3, the second both alike, the third askers 1 and 2, who is taken by room 0.
        self.assertEqual(gone_pairs(tied), ((3, 0), (0, 0), (1, 0), (1, 1), (2, 1)))
        self.assertEqual(strongest(tied), ((1, None, 0, None), None))

    def test_the_lowest_who_holds_nothing_asks_first(self):
        # Asker 0 is put out by asker 1 and asks on, ahead of asker 2.
        tied = Tied(((0, 1), (0,), (2,)), (((1,), (0,)), ((0,), (2,)), ((2,), (0,))))
        strong = Strong(tied)
        strong.go_on()
        self.assertEqual(strong.gone, [(0, 0)])
        two = Tied(((0, 1), (0, 2), (1, 2, 0)), (((1,), (0,), (2,)), ((0,), (2,)), ((2,), (1,))))
        self.assertEqual(gone_pairs(two), ((2, 0), (0, 0), (2, 1), (1, 2)))

    def test_groups_of_one_are_strict_orders(self):
        for lists, orders in some_tied(80, 124):
            single = tuple(tuple((one,) for group in groups for one in group) for groups in orders)
            tied = Tied(lists, single)
            self.assertEqual(strongest(tied), (ask_all(tied.strict(range(len(lists)))), None))

    def test_nobody(self):
        self.assertEqual(strongest(Tied((), ())), ((), None))
        self.assertEqual(strongest(Tied((), ((),))), ((), None))
        with self.assertRaises(BadPaper):
            check_none(Tied((), ()), 0)

    def test_just_where_a_strongly_stable_one_is_there(self):
        some = none = 0
        for lists, orders in some_tied(500, 125):
            tied = Tied(lists, orders)
            found = strong_ones(lists, orders)
            match, room = strongest(tied)
            if found:
                some += 1
                best = tuple(min([one[asker] for one in found], key=lambda had, order=order: place(order, had))
                             for asker, order in enumerate(lists))
                self.assertEqual((match, room), (best, None))
                for other in range(len(orders)):
                    with self.assertRaises(BadPaper):
                        check_none(tied, other)
            else:
                none += 1
                self.assertIsNone(match)
                self.assertIs(check_none(tied, room), True)
                for lower in range(room):
                    with self.assertRaises(BadPaper):
                        check_none(tied, lower)
            for asker, gone in gone_pairs(tied):
                self.assertFalse(any(one[asker] == gone for one in found))
        self.assertGreater(min(some, none), 50)


if __name__ == "__main__":
    unittest.main()
