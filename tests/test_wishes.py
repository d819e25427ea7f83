"""Point 2: wishes."""

import unittest
from itertools import permutations

from pairmart.errors import BadSize, BadWish
from pairmart.wishes import (
    Wish, all_lists, all_orders, apart_of, broken, check_groups, check_list, cut_after, exchanged, group_ranks,
    majority, moved_up,
)


class StrictLists(unittest.TestCase):

    def setUp(self):
        self.wish = Wish([4, 1, 3])

    def test_fields(self):
        self.assertEqual(self.wish.order, (4, 1, 3))
        self.assertEqual(self.wish.ranks, {4: 0, 1: 1, 3: 2})

    def test_fields_do_not_follow_the_list_they_were_made_of(self):
        order = [2, 0]
        wish = Wish(order)
        order.append(1)
        self.assertEqual(wish.order, (2, 0))

    def test_has(self):
        self.assertEqual([self.wish.has(one) for one in (4, 1, 3, 0, 2, None)], [True, True, True, False, False, False])

    def test_rank(self):
        self.assertEqual([self.wish.rank(one) for one in (4, 1, 3)], [0, 1, 2])
        self.assertEqual(self.wish.rank(None), 3)
        self.assertIsNone(self.wish.rank(0))
        self.assertEqual(Wish(()).rank(None), 0)

    def test_better_among_listed_ones_and_nothing(self):
        stands = (4, 1, 3, None)
        for high, one in enumerate(stands):
            for low, other in enumerate(stands):
                self.assertIs(self.wish.better(one, other), high < low, (one, other))

    def test_what_is_not_listed_stands_behind_nothing(self):
        for one in (4, 1, 3, None):
            self.assertIs(self.wish.better(one, 0), True)
            self.assertIs(self.wish.better(0, one), False)
        self.assertIs(self.wish.better(0, 2), False)
        self.assertIs(self.wish.better(0, 0), False)

    def test_ahead_of(self):
        self.assertEqual(self.wish.ahead_of(4), ())
        self.assertEqual(self.wish.ahead_of(3), (4, 1))
        self.assertEqual(self.wish.ahead_of(None), (4, 1, 3))
        self.assertEqual(self.wish.ahead_of(7), (4, 1, 3))

    def test_worst(self):
        self.assertEqual(self.wish.worst((3, 4, 1)), 3)
        self.assertEqual(self.wish.worst([4, 1, 0, None]), 1)
        self.assertEqual(self.wish.worst([4]), 4)
        self.assertIsNone(self.wish.worst([]))
        self.assertIsNone(self.wish.worst((0, 2)))

    def test_best_of(self):
        self.assertEqual(self.wish.best_of((0, 3, 1, 4), 2), (4, 1))
        self.assertEqual(self.wish.best_of([3, 1], 5), (1, 3))
        self.assertEqual(self.wish.best_of([3, 1, 4], 0), ())
        self.assertEqual(self.wish.best_of([0, 2, None], 2), ())

    def test_check_list(self):
        self.assertEqual(check_list([2, 0], 3), (2, 0))
        self.assertEqual(check_list((), 0), ())
        self.assertIs(type(check_list([2, 0], 3)), tuple)

    def test_check_list_refuses(self):
        for order, many in (((1, 1), 3), ((0, 2, 0), 3), ((3,), 3), ((0, -1), 3), ((0,), 0)):
            with self.assertRaises(BadWish):
                check_list(order, many)

    def test_cut_after(self):
        self.assertEqual(cut_after((3, 1, 2), 1), (3, 1))
        self.assertEqual(cut_after([3, 1, 2], 2), (3, 1, 2))
        self.assertEqual(cut_after([3, 1, 2], 3), (3,))
        for order in ((3, 1), ()):
            with self.assertRaises(BadWish):
                cut_after(order, 0)

    def test_moved_up(self):
        self.assertEqual(moved_up([3, 1, 2], 2), (2, 3, 1))
        self.assertEqual(moved_up((3, 1, 2), 3), (3, 1, 2))
        self.assertEqual(moved_up((3, 1), 0), (0, 3, 1))
        self.assertEqual(moved_up((), 5), (5,))

    def test_exchanged(self):
        order = [3, 1, 2]
        self.assertEqual(exchanged(order, 0), (1, 3, 2))
        self.assertEqual(exchanged(order, 1), (3, 2, 1))
        self.assertEqual(order, [3, 1, 2])

    def test_exchanged_refuses(self):
        for order, place in (((3, 1, 2), 2), ((3, 1, 2), -1), ((3,), 0), ((), 0), ((3, 1), 5)):
            with self.assertRaises(BadSize):
                exchanged(order, place)


class Groups(unittest.TestCase):

    def test_check_groups_tells_groups_in_order_of_numbers(self):
        self.assertEqual(check_groups([[2, 0], (3,), [4, 1]], 5), ((0, 2), (3,), (1, 4)))
        self.assertEqual(check_groups([], 0), ())

    def test_check_groups_refuses(self):
        for groups in ([[0], []], [()], [[0, 0]], [[0], [1, 0]], [[3]], [[0, -1]]):
            with self.assertRaises(BadWish):
                check_groups(groups, 3)

    def test_broken_by_places_in_the_draw(self):
        groups = ((0, 2, 4), (1,), (3, 5))
        self.assertEqual(broken(groups, [5, 4, 3, 2, 1, 0]), (4, 2, 0, 1, 5, 3))
        self.assertEqual(broken(groups, (0, 1, 2, 3, 4, 5)), (0, 2, 4, 1, 3, 5))
        self.assertEqual(broken(groups, (2, 9, 0, 3, 5, 4, 1)), (2, 0, 4, 1, 3, 5))
        self.assertEqual(broken((), ()), ())

    def test_broken_refuses_one_not_drawn(self):
        for groups, draw in ((((0, 1),), (0,)), (((0,), (1,)), (0, 2)), (((0,),), ())):
            with self.assertRaises(BadWish):
                broken(groups, draw)

    def test_group_ranks(self):
        self.assertEqual(group_ranks(((1, 4), (0,), (2, 3))), {1: 0, 4: 0, 0: 1, 2: 2, 3: 2})
        self.assertEqual(group_ranks(()), {})


class AllOfThem(unittest.TestCase):

    def test_all_orders_by_their_first_ones_as_told(self):
        self.assertEqual(all_orders((5, 2, 3)), (
            (5, 2, 3), (5, 3, 2), (2, 5, 3), (2, 3, 5), (3, 5, 2), (3, 2, 5),
        ))
        self.assertEqual(all_orders([7]), ((7,),))
        self.assertEqual(all_orders([]), ((),))
        self.assertEqual(all_orders((3, 1, 0, 2)), tuple(permutations((3, 1, 0, 2))))

    def test_all_lists_shorter_ones_first_then_in_order(self):
        self.assertEqual(all_lists(2), ((), (0,), (1,), (0, 1), (1, 0)))
        self.assertEqual(all_lists(0), ((),))
        for many in range(6):
            expected = tuple(order for length in range(many + 1) for order in permutations(range(many), length))
            self.assertEqual(all_lists(many), expected)

    def test_all_lists_are_for_up_to_five(self):
        self.assertEqual(len(all_lists(5)), 326)
        for many in (6, 7, 100):
            with self.assertRaises(BadSize):
                all_lists(many)

    def test_apart_of(self):
        self.assertEqual(apart_of((0, 1, 2), (0, 1, 2)), 0)
        self.assertEqual(apart_of([0, 1, 2], (1, 0, 2)), 1)
        self.assertEqual(apart_of((0, 1, 2, 3), (3, 2, 1, 0)), 6)
        self.assertEqual(apart_of((5, 2, 9), (9, 5, 2)), 2)
        self.assertEqual(apart_of((), ()), 0)

    def test_apart_of_counts_the_exchanges_between_lists(self):
        order = (4, 1, 3, 0)
        for place in range(3):
            self.assertEqual(apart_of(order, exchanged(order, place)), 1)

    def test_apart_of_refuses_lists_of_others(self):
        for one, other in (((0, 1), (0, 2)), ((0, 1), (0,)), ((), (0,))):
            with self.assertRaises(BadWish):
                apart_of(one, other)

    def test_majority(self):
        orders = [(0, 1, 2), [1, 0], (2, 1), (0,), ()]
        self.assertEqual(majority(orders, 0, 1), 0)
        self.assertEqual(majority(orders, 1, 2), 1)
        self.assertEqual(majority(orders, 2, 1), -1)
        self.assertEqual(majority(orders, 0, 2), 2)
        self.assertEqual(majority(orders, 0, 7), 3)
        self.assertEqual(majority(orders, 7, 0), -3)
        self.assertEqual(majority(orders, 1, 1), 0)
        self.assertEqual(majority((), 0, 1), 0)


if __name__ == "__main__":
    unittest.main()
