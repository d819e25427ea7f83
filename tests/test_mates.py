"""Point 16: mates."""

import random
import unittest

from pairmart.errors import BadPaper, BadWish
from pairmart.mates import (
    Table, are_mates, blocking, check_ask, check_ring, check_steps, is_settled, pair_off, search, steps_of,
)
from small import place

# Three who go round and one whom nobody wants: none can be settled.
ROUND = ((1, 2, 3), (2, 0, 3), (0, 1, 3), (0, 1, 2))


def some_mates(count, seed, most=6):
    """Lists of each other of up to so many, mostly long ones, the same ones for the same seed."""
    chance = random.Random(seed)
    found = []
    for _ in range(count):
        many = chance.randint(0, most)
        lists = []
        for one in range(many):
            others = [other for other in range(many) if other != one]
            chance.shuffle(others)
            lists.append(tuple(others[:chance.choice((many, many, chance.randint(0, many)))]))
        found.append(tuple(lists))
    return found


def full_lists(count, seed, many):
    """Lists of so many who all list all others, the same ones for the same seed."""
    chance = random.Random(seed)
    return [tuple(tuple(chance.sample([other for other in range(many) if other != one], many - 1))
                  for one in range(many)) for _ in range(count)]


def all_mates(lists):
    """All ways to pair ones who list each other, as tuples of mates."""
    many = len(lists)
    ways = [(None,) * many]
    for low in range(many):
        for high in range(low + 1, many):
            if high in lists[low] and low in lists[high]:
                for mates in list(ways):
                    if mates[low] is None and mates[high] is None:
                        paired = list(mates)
                        paired[low], paired[high] = high, low
                        ways.append(tuple(paired))
    return ways


def blocks(lists, mates):
    """The pairs that would rather be together, by the document's words."""
    return tuple((one, other) for one in range(len(lists)) for other in range(one + 1, len(lists))
                 if other in lists[one] and one in lists[other]
                 and place(lists[one], other) < place(lists[one], mates[one])
                 and place(lists[other], one) < place(lists[other], mates[other]))


def settled_ones(lists):
    """All mates with whom no two would rather be together, by trying all."""
    return [mates for mates in all_mates(lists) if blocks(lists, mates) == ()]


class Tables(unittest.TestCase):

    def test_fields(self):
        table = Table([[1, 2], (0,), ()])
        self.assertEqual([wish.order for wish in table.full], [(1, 2), (0,), ()])
        self.assertEqual((table.left, table.steps), ([[1], [0], []], []))

    def test_lists_that_cannot_be_are_refused(self):
        for lists in (((0,),), ((1, 0), (0,)), ((1, 1), (0,)), ((2,), (0,)), ((-1,), (0,))):
            for refused in (Table, search, pair_off, steps_of, lambda lists: check_steps(lists, ())):
                with self.assertRaises(BadWish):
                    refused(lists)

    def test_drop(self):
        table = Table(ROUND)
        self.assertIsNone(table.drop(0, 2))
        self.assertEqual(table.left, [[1, 3], [2, 0, 3], [1, 3], [0, 1, 2]])
        table.drop(0, 2)
        self.assertEqual(table.left, [[1, 3], [2, 0, 3], [1, 3], [0, 1, 2]])

    def test_cut_behind(self):
        table = Table(ROUND)
        self.assertIsNone(table.cut_behind(3, 0))
        self.assertEqual(table.left, [[1, 2, 3], [2, 0], [0, 1], [0]])
        table.cut_behind(3, 0)
        table.cut_behind(0, 3)
        self.assertEqual(table.left, [[1, 2, 3], [2, 0], [0, 1], [0]])
        table.cut_behind(0, 1)
        self.assertEqual(table.left, [[1], [2, 0], [1], []])

    def test_ask_round(self):
        table = Table(ROUND)
        self.assertIs(table.is_even(), False)
        self.assertIsNone(table.ask_round())
        self.assertIs(table.is_even(), True)
        self.assertEqual(table.left, [[1, 2], [2, 0], [0, 1], []])
        self.assertEqual(table.steps, [("ask", 0, 1), ("ask", 1, 2), ("ask", 2, 0)])

    def test_asks_go_round_until_nothing_moves(self):
        # 2's ask has 3 drop 0, who would ask 2 next; but first all behind 2 have their turn, and 3's ask has 2 drop 0.
        table = Table(((3, 1, 2), (2,), (3, 0, 1), (2, 0, 1)))
        table.ask_round()
        self.assertEqual(table.steps, [("ask", 2, 3), ("ask", 3, 2)])
        self.assertEqual(table.left, [[], [], [3], [2]])
        table = Table(((1, 2), (3, 0), (0, 3), (1, 2)))
        table.ask_round()
        self.assertEqual(table.steps, [("ask", 1, 3), ("ask", 3, 1)])
        self.assertEqual(table.left, [[2], [3], [0], [1]])

    def test_each_ones_first_has_it_last_when_the_asks_are_done(self):
        for lists in some_mates(100, 261):
            table = Table(lists)
            table.ask_round()
            for one, row in enumerate(table.left):
                self.assertEqual(row, [other for other in lists[one] if other in row])
                self.assertTrue(all(one in table.left[other] for other in row))
                self.assertTrue(row == [] or table.left[row[0]][-1] == one)
            self.assertIs(table.is_even(), True)
            # No mates with whom all could be settled are lost by asks.
            for mates in settled_ones(lists):
                self.assertTrue(all(other is None or other in table.left[one] for one, other in enumerate(mates)))

    def test_ring(self):
        table = Table(ROUND)
        table.ask_round()
        self.assertEqual(table.ring(), ((0, 1, 2), (1, 2, 0), (2, 0, 1)))
        self.assertIsNone(Table(((1,), (0,))).ring())
        self.assertIsNone(Table(()).ring())

    def test_a_ring_to_which_a_way_leads_from_the_lowest(self):
        # From 0 its second's last is 1, from there 2, and 1 again.
        table = Table(((1, 3, 2), (2, 3, 0), (0, 3, 1), (2, 0, 1)))
        table.ask_round()
        self.assertEqual(table.left, [[1, 3, 2], [3, 0], [0, 3], [2, 0, 1]])
        self.assertEqual(table.ring(), ((1, 3, 0), (2, 0, 3)))
        # From 0 it is 3, then 1, and 3 again: the ring is told as the way comes to it.
        table = Table(((3, 2, 1), (3, 0, 2), (1, 0, 3), (2, 0, 1)))
        table.ask_round()
        self.assertEqual(table.ring(), ((3, 2, 0), (1, 0, 2)))

    def test_turn(self):
        table = Table(((3, 2, 1), (3, 0, 2), (1, 0, 3), (2, 0, 1)))
        table.ask_round()
        self.assertEqual(table.left, [[3, 2, 1], [0, 2], [1, 0, 3], [2, 0]])
        self.assertIsNone(table.turn(((3, 2, 0), (1, 0, 2))))
        self.assertEqual(table.left, [[3], [2], [1], [0]])
        self.assertEqual(table.steps[-1], ("turn", ((3, 2, 0), (1, 0, 2))))

    def test_who_is_dropped_in_a_ring_is_not_put_back_by_its_later_turns(self):
        table = Table(ROUND)
        table.ask_round()
        table.turn(table.ring())
        self.assertEqual(table.left, [[], [], [], []])

    def test_rings_leave_each_ones_first_with_it_last(self):
        turned = 0
        for lists in full_lists(150, 268, 8):
            table = Table(lists)
            table.ask_round()
            ring = table.ring()
            while ring is not None:
                table.turn(ring)
                bare = any(table.left[one] == [] for one, _, _ in ring)
                turned += not bare
                self.assertTrue(bare or table.is_even())
                ring = None if bare else table.ring()
        self.assertGreater(turned, 50)

    def test_is_bare(self):
        table = Table(((1,), (0,), ()))
        self.assertIs(table.is_bare((0, 1)), False)
        self.assertIs(table.is_bare([0, 2]), True)
        self.assertIs(table.is_bare(()), False)
        table.drop(0, 1)
        self.assertIs(table.is_bare((0, 1)), True)

    def test_search(self):
        self.assertEqual([len(row) for row in search(((1,), (0,), ())).left], [1, 1, 0])
        for lists in some_mates(150, 262):
            table = search(lists)
            asked = Table(lists)
            asked.ask_round()
            had = [one for one, row in enumerate(asked.left) if row]
            if settled_ones(lists):
                self.assertTrue(all(len(table.left[one]) == (one in had) for one in range(len(lists))))
            else:
                self.assertIs(table.is_bare(had), True)
                self.assertEqual(table.steps[-1][0], "turn")


class Settled(unittest.TestCase):

    def test_pair_off(self):
        self.assertEqual(pair_off(((1, 2), (2, 0), (1, 0))), (None, 2, 1))
        self.assertEqual(pair_off([[1, 2, 3], [2, 3, 0], [1, 3, 0], [0, 1, 2]]), (3, 2, 1, 0))
        self.assertIsNone(pair_off(ROUND))
        self.assertIsNone(pair_off(((1, 2), (2, 0), (0, 1))))

    def test_nobody_one_alone_and_bare_lists(self):
        self.assertEqual((pair_off(()), steps_of(())), ((), ()))
        self.assertEqual(pair_off(((),)), (None,))
        self.assertEqual(pair_off(((), ())), (None, None))
        self.assertEqual(pair_off(((1,), ())), (None, None))
        self.assertEqual(pair_off(((1,), (0, 2), (1,))), (1, 0, None))

    def test_mates_are_settled_just_where_some_can_be(self):
        some = none = 0
        for lists in some_mates(700, 263):
            found = settled_ones(lists)
            mates = pair_off(lists)
            if found:
                some += 1
                self.assertIn(mates, found)
                self.assertIs(is_settled(lists, mates), True)
                with self.assertRaises(BadPaper):
                    check_steps(lists, steps_of(lists))
            else:
                none += 1
                self.assertIsNone(mates)
                self.assertIs(check_steps(lists, steps_of(lists)), True)
                # The last ring is the first that leaves somebody bare.
                with self.assertRaises(BadPaper):
                    check_steps(lists, steps_of(lists)[:-1])
        self.assertGreater(min(some, none), 40)

    def test_eight_who_all_list_all(self):
        both = set()
        for lists in full_lists(60, 264, 8):
            found = settled_ones(lists)
            both.add(bool(found))
            self.assertTrue(pair_off(lists) in found if found else pair_off(lists) is None)
        self.assertEqual(both, {True, False})

    def test_blocking(self):
        self.assertEqual(blocking(ROUND, (1, 0, 3, 2)), ((1, 2),))
        self.assertEqual(blocking(ROUND, [None] * 4), ((0, 1), (0, 2), (0, 3), (1, 2), (1, 3), (2, 3)))
        self.assertEqual(blocking((), ()), ())
        self.assertEqual(blocking(((1,), ()), (None, None)), ())
        for lists in some_mates(60, 265, most=5):
            for mates in all_mates(lists):
                self.assertEqual(blocking(lists, mates), blocks(lists, mates))
                self.assertIs(is_settled(lists, mates), blocks(lists, mates) == ())

    def test_are_mates(self):
        lists = ((1, 2), (0,), (0, 1), ())
        for mates, expected in (((1, 0, None, None), True), ((2, None, 0, None), True), ((None,) * 4, True),
                                ((1, None, None, None), False), ((None, 2, 1, None), False), ((1, 0, 0, None), False),
                                ((None, None, 3, 2), False), ((1, 0, None), False), ((1, 0, None, None, None), False),
                                ((4, None, None, None), False), ((-2, None, 0, None), False), ((0, None, None, None), False)):
            self.assertIs(are_mates(lists, mates), expected, mates)
            self.assertIs(is_settled(lists, mates), expected and mates == (1, 0, None, None))
        self.assertIs(are_mates(lists, [1, 0, None, None]), True)
        self.assertIs(are_mates((), ()), True)


class Steps(unittest.TestCase):

    def setUp(self):
        self.asks = (("ask", 0, 1), ("ask", 1, 2), ("ask", 2, 0))
        self.turn = ("turn", ((0, 1, 2), (1, 2, 0), (2, 0, 1)))

    def test_steps_of(self):
        self.assertEqual(steps_of(ROUND), self.asks + (self.turn,))
        self.assertEqual(steps_of(((1,), (0,))), ())
        self.assertEqual(steps_of(((1, 2), (0,), (0,))), (("ask", 1, 0),))

    def test_steps_are_taken_in_any_order_in_which_they_are_due(self):
        self.assertIs(check_steps(ROUND, self.asks[::-1] + (self.turn,)), True)
        self.assertIs(check_steps(ROUND, [list(step) for step in self.asks] + [["turn", [[1, 2, 0], [2, 0, 1], [0, 1, 2]]]]),
                      True)

    def test_steps_that_are_not_due(self):
        asks, turn = self.asks, self.turn
        for steps in ((), asks, (turn,), asks[:2] + (turn,), asks[1:] + (turn,), (turn,) + asks,
                      asks[:2] + (turn,) + asks[2:], asks + (("ask", 0, 2), turn), asks + (("ask", 3, 0), turn),
                      asks + (("ask", 4, 0), turn), asks + (("ask", -1, 0), turn), asks + (turn, turn),
                      asks + (turn, ("ask", 0, 2))):
            with self.assertRaises(BadPaper):
                check_steps(ROUND, steps)

    def test_the_first_ring_that_leaves_somebody_bare_is_enough(self):
        lists = ((1, 2), (2, 0), (0, 1), (4, 5), (5, 3), (3, 4))
        self.assertEqual(steps_of(lists), (("turn", ((0, 1, 2), (1, 2, 0), (2, 0, 1))),))
        self.assertIs(check_steps(lists, (("turn", ((3, 4, 5), (4, 5, 3), (5, 3, 4))),)), True)

    def test_a_ring_told_while_an_ask_is_due(self):
        # The ring is whole, but 4's ask has 5 drop 3.
        lists = ((1, 2), (2, 0), (0, 1), (5,), (5,), (4, 3))
        turn = ("turn", ((0, 1, 2), (1, 2, 0), (2, 0, 1)))
        self.assertIs(check_steps(lists, (("ask", 4, 5), turn)), True)
        for steps in ((turn,), (turn, ("ask", 4, 5))):
            with self.assertRaises(BadPaper):
                check_steps(lists, steps)

    def test_rings_that_are_none(self):
        for ring in ((), ((0, 1, 2),), ((0, 1, 2), (1, 2, 0)), ((0, 1, 2), (2, 0, 1), (1, 2, 0)),
                     ((0, 2, 1), (1, 2, 0), (2, 0, 1)), ((0, 1, 3), (1, 2, 0), (2, 0, 1)),
                     ((3, 0, 1),), ((4, 1, 2), (1, 2, 0), (2, 0, 1)), ((-4, 1, 2), (1, 2, 0), (2, 0, 1)),
                     ((-1, 0, 1), (1, 2, 0), (2, 0, 1))):
            with self.assertRaises(BadPaper):
                check_steps(ROUND, self.asks + (("turn", ring),))

    def test_check_ask(self):
        table = Table(ROUND)
        self.assertIsNone(check_ask(table, ("ask", 1, 2)))
        self.assertEqual(table.left, [[1, 2, 3], [2, 0, 3], [0, 1], [0, 1]])
        before = [list(row) for row in table.left]
        for step in (("ask", 1, 0), ("ask", 4, 0), ("ask", -1, 0), ("ask", 0, 2)):
            with self.assertRaises(BadPaper):
                check_ask(table, step)
        self.assertEqual(table.left, before)
        with self.assertRaises(BadPaper):
            check_ask(Table(((), ())), ("ask", 0, 1))

    def test_check_ring(self):
        table = Table(ROUND)
        table.ask_round()
        before = [list(row) for row in table.left]
        for ring in ((), ((0, 1, 2), (1, 2, 0)), ((1, 2, 0), (0, 1, 2), (2, 0, 1)), ((3, 0, 1),)):
            with self.assertRaises(BadPaper):
                check_ring(table, ring)
        self.assertEqual((table.left, table.steps), (before, list(self.asks)))
        self.assertIsNone(check_ring(table, self.turn[1]))
        self.assertIs(table.is_bare((0, 1, 2)), True)

    def test_a_first_with_somebody_behind_makes_no_ring(self):
        table = Table(((1, 2), (2, 0, 3), (0, 1), (1,)))
        self.assertEqual(table.left, [[1, 2], [2, 0, 3], [0, 1], [1]])
        with self.assertRaises(BadPaper):
            check_ring(table, ((0, 1, 2), (1, 2, 0), (2, 0, 1)))
        table.drop(3, 1)
        check_ring(table, ((0, 1, 2), (1, 2, 0), (2, 0, 1)))
        # Each second's last is the next, but 0's first has 4 behind it.
        table = Table(((2, 3, 5), (4, 5, 3), (0, 4), (0, 1), (1, 2), (1, 0)))
        with self.assertRaises(BadPaper):
            check_ring(table, ((0, 2, 3), (1, 4, 5)))

    def test_steps_changed_somehow_show_nothing_that_is_not_so(self):
        chance = random.Random(266)
        taken = refused = 0
        for lists in some_mates(250, 267):
            steps = list(steps_of(lists))
            can_be = settled_ones(lists) != []
            for _ in range(6):
                told = list(steps)
                for _ in range(chance.randint(1, 2)):
                    if told and chance.random() < 0.5:
                        told.pop(chance.randrange(len(told)))
                    elif len(told) > 1:
                        at = chance.randrange(len(told) - 1)
                        told[at], told[at + 1] = told[at + 1], told[at]
                try:
                    self.assertIs(check_steps(lists, told), True)
                    self.assertFalse(can_be)
                    taken += 1
                except BadPaper:
                    refused += 1
        self.assertGreater(min(taken, refused), 10)

    def test_who_is_left_bare_by_asks_alone_shows_nothing(self):
        lists = ((1,), (0, 2), (1,))
        self.assertEqual(steps_of(lists), (("ask", 0, 1),))
        with self.assertRaises(BadPaper):
            check_steps(lists, (("ask", 0, 1),))


if __name__ == "__main__":
    unittest.main()
