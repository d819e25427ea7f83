"""Point 23, votes: givings that no other wins a vote against, and lots that show that there are none."""

import random
import unittest
from itertools import product

from pairmart.errors import BadPaper, BadWish
from pairmart.liked import Votes, by_choices, check_lot, is_giving, most_liked, raised, vote
from small import all_lots, place, some_list


def some_wishes(count, seed, askers=5, things=3):
    """(lists, how many things), alike enough for firsts to be several askers'."""
    chance = random.Random(seed)
    found = []
    for _ in range(count):
        many = chance.randint(0, things)
        base = some_list(chance, many)
        lists = [base if chance.random() < 0.6 else some_list(chance, many) for _ in range(askers - chance.choice((0, 0, 1, 2, askers)))]
        found.append((tuple(lists), many))
    return found


def givings(lists):
    """All givings of things to lists."""
    return [given for given in product(*[order + (None,) for order in lists])
            if len(set(given) - {None}) == len([thing for thing in given if thing is not None])]


def by_votes(lists, one, other):
    """The votes for one giving less those for another, by the document's words."""
    found = 0
    for order, mine, theirs in zip(lists, one, other):
        found += (place(order, mine) < place(order, theirs)) - (place(order, theirs) < place(order, mine))
    return found


def unbeaten(lists):
    """All givings that no other wins against, by trying all."""
    can = givings(lists)
    return [one for one in can if all(by_votes(lists, other, one) <= 0 for other in can)]


def choice_count(lists, lot):
    """How many first and second things a lot has, nothing of its own counted where there is no second."""
    firsts = {order[0] for order in lists if order}
    found = set()
    for one in lot:
        found.add(lists[one][0] if lists[one] else ("own", one))
        found.add(next((thing for thing in lists[one] if thing not in firsts), ("own", one)))
    return len(found)


class Choices(unittest.TestCase):

    def setUp(self):
        self.votes = Votes(((0, 1, 2), (0, 2), (1,), (1, 0), ()), 4)

    def test_first_and_second(self):
        self.assertEqual([self.votes.first(asker) for asker in range(5)], [0, 0, 1, 1, None])
        self.assertEqual([self.votes.second(asker) for asker in range(5)], [2, 2, None, None, None])

    def test_choices(self):
        rows = self.votes.choices()
        self.assertIsInstance(rows, list)
        self.assertEqual([tuple(row) for row in rows[:4]], [(0, 2), (0, 2), (1, 6), (1, 7)])
        self.assertEqual(set(rows[4]), {8})
        self.assertEqual(Votes((), 0).choices(), [])

    def test_what_is_refused(self):
        for lists in (((0, 0),), ((2,),), ((-1,),)):
            for ask in (Votes, most_liked):
                with self.assertRaises(BadWish):
                    ask(lists, 2)
            with self.assertRaises(BadWish):
                by_choices(lists, 2, (None,))
            with self.assertRaises(BadWish):
                check_lot(lists, 2, ())


class MostLiked(unittest.TestCase):

    def test_three_of_one_mind_have_none(self):
        lists = ((0, 1, 2),) * 3
        given, lot = most_liked(lists, 3)
        self.assertIsNone(given)
        self.assertTrue(check_lot(lists, 3, lot))
        self.assertEqual(unbeaten(lists), [])

    def test_two_of_one_mind(self):
        self.assertIn(most_liked(((0, 1), (0, 1)), 2), [((0, 1), None), ((1, 0), None)])

    def test_a_first_that_would_go_bare_is_raised(self):
        for lists in (((0, 1), (2, 0)), ((0, 1),), ((1, 0, 2), (0, 2), (0, 1, 2))):
            given, _ = most_liked(lists, 3)
            self.assertTrue(set(order[0] for order in lists) <= set(given), lists)

    def test_against_all_givings(self):
        ones = [0, 0]
        for lists, many in some_wishes(250, 2301):
            can = unbeaten(lists)
            given, lot = most_liked(lists, many)
            ones[len(can) > 0] += 1
            if can:
                self.assertIn(given, can)
                self.assertIsNone(lot)
            else:
                self.assertIsNone(given)
                self.assertLess(choice_count(lists, lot), len(lot))
                self.assertTrue(check_lot(lists, many, lot))
        self.assertGreater(min(ones), 20)

    def test_nobody_and_bare_lists(self):
        self.assertEqual(most_liked((), 0), ((), None))
        self.assertEqual(most_liked((), 3), ((), None))
        self.assertEqual(most_liked(((), ()), 1), ((None, None), None))
        self.assertEqual(most_liked(([0], []), 1), ((0, None), None))

    def test_no_second(self):
        self.assertIn(most_liked(((0,), (0,), (0,)), 1)[0], ((0, None, None), (None, 0, None), (None, None, 0)))


class Raised(unittest.TestCase):

    def test_the_lowest_who_has_it_first(self):
        votes = Votes(((1, 2), (0, 2), (0, 3), (0, 4)), 5)
        self.assertEqual(raised(votes, (1, 2, 3, 4)), (1, 0, 3, 4))
        self.assertEqual(raised(votes, (None, 2, 3, None)), (1, 0, 3, None))
        self.assertEqual(raised(votes, [1, 2, 0, 4]), (1, 2, 0, 4))

    def test_nothing_to_raise(self):
        self.assertEqual(raised(Votes((), 2), ()), ())
        self.assertEqual(raised(Votes(((), ()), 2), (None, None)), (None, None))

    def test_a_first_that_another_leaves(self):
        # 0 leaves 1's first for its own, which 1 then gets.
        votes = Votes(((0, 1), (1, 0)), 2)
        self.assertEqual(raised(votes, (1, None)), (0, 1))
        votes = Votes(((1, 0), (0, 1)), 2)
        self.assertEqual(raised(votes, (0, None)), (1, 0))


class Voting(unittest.TestCase):

    def test_vote(self):
        lists = ((0, 1), (1, 0), (0,))
        self.assertEqual(vote(lists, (0, 1, None), (1, 0, None)), 2)
        self.assertEqual(vote(lists, (1, 0, None), (0, 1, None)), -2)
        # Even votes; nothing is worse than what is listed, and what isn't listed worse than nothing.
        self.assertEqual(vote(lists, (0, 1, None), (1, None, 0)), 1)
        self.assertEqual(vote(lists, (0, 0, None), (1, 1, None)), 0)
        self.assertEqual(vote(lists, (None, None, 1), (None, None, None)), -1)
        self.assertEqual(vote((), (), ()), 0)

    def test_each_two_givings(self):
        for lists, _ in some_wishes(25, 2302, askers=3, things=3):
            can = givings(lists)
            for one in can:
                for other in can:
                    self.assertEqual(vote(lists, one, other), by_votes(lists, one, other))

    def test_is_giving(self):
        lists = ((0, 1), (1,), ())
        for given in ((0, 1, None), (None, None, None), [1, None, None]):
            self.assertTrue(is_giving(lists, given))
        for given in ((1, 1, None), (0, 0, None), (2, 1, None), (0, 1, 0), (0, 1), (0, 1, None, None), (-1, 1, None)):
            self.assertFalse(is_giving(lists, given))
        self.assertTrue(is_giving((), ()))

    def test_by_choices(self):
        for lists, many in some_wishes(80, 2303):
            can = unbeaten(lists)
            for given in givings(lists):
                self.assertEqual(by_choices(lists, many, given), given in can, (lists, given))
        self.assertFalse(by_choices(((0, 1), (0, 1)), 2, (1, 1)))
        self.assertFalse(by_choices(((0, 1), (2, 1), (0, 1)), 3, (1, 2, 1)))
        self.assertFalse(by_choices(((0,),), 1, (0, 0)))


class CheckLot(unittest.TestCase):

    def test_each_lot(self):
        taken = 0
        for lists, many in some_wishes(120, 2304):
            for lot in all_lots(len(lists)):
                if choice_count(lists, lot) < len(lot):
                    self.assertIs(check_lot(lists, many, lot), True)
                    self.assertEqual(unbeaten(lists), [])
                    taken += 1
                else:
                    with self.assertRaises(BadPaper):
                        check_lot(lists, many, lot)
        self.assertGreater(taken, 15)

    def test_lots_off_by_one(self):
        lists = ((0, 1),) * 3 + ((0,),)
        self.assertIs(check_lot(lists, 2, (2, 0, 1)), True)
        # Two have two choices; the fourth has nothing of its own as one more; told twice; not there.
        for lot in ((0, 1), (0, 1, 3), (0, 1, 2, 3, 3), (0, 1, 1), (0, 1, 2, 2), (0, 1, 4), (0, 1, 2, 4),
                    (0, 1, 2, -1), ()):
            with self.assertRaises(BadPaper):
                check_lot(lists, 2, lot)


if __name__ == "__main__":
    unittest.main()
