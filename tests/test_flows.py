"""Point 20, flows: several rooms for several askers within bounds, and cuts that show that none can be."""

import random
import unittest
from itertools import combinations

from pairmart.errors import BadPaper, BadSize
from pairmart.flows import (
    Pipes, Wants, check_cut, cut_worth, keeps, laid, most, most_cut, pairs_of, short_cut, with_least,
)
from small import all_lots, some_list


def some_bounds(chance, many, most_of):
    """So many (least, most) within so much, least counts mostly low."""
    found = []
    for _ in range(many):
        high = chance.randint(0, most_of)
        found.append((chance.choice((0, 0, chance.randint(0, high))), high))
    return tuple(found)


def some_wants(count, seed, most_of=3):
    """(lists, askers' bounds, rooms' bounds) of up to three askers and rooms, the same ones for the same seed."""
    chance = random.Random(seed)
    found = []
    for _ in range(count):
        askers, rooms = chance.randint(0, 3), chance.randint(0, 3)
        lists = tuple(some_list(chance, rooms) for _ in range(askers))
        found.append((lists, some_bounds(chance, askers, most_of), some_bounds(chance, rooms, most_of)))
    return found


def all_sets(lists):
    """All sets of pairs of some lists, the larger ones last."""
    pairs = [(asker, room) for asker, row in enumerate(lists) for room in sorted(row)]
    return [lot for length in range(len(pairs) + 1) for lot in combinations(pairs, length)]


def within(pairs, askers, rooms, least):
    """Whether pairs keep most counts, and least counts where told."""
    counts = [([asker for asker, _ in pairs].count(one), bounds) for one, bounds in enumerate(askers)]
    counts += [([room for _, room in pairs].count(one), bounds) for one, bounds in enumerate(rooms)]
    return all(count <= high and (not least or low <= count) for count, (low, high) in counts)


def shows(lists, askers, rooms, mine, theirs):
    """Whether a cut shows that no pairs keep all bounds, by the document's words."""
    links = len([1 for asker in mine for room in lists[asker] if room not in theirs])
    first = sum(askers[one][0] for one in mine) > sum(rooms[one][1] for one in theirs) + links
    others = [one for one in range(len(askers)) if one not in mine]
    other_rooms = [one for one in range(len(rooms)) if one not in theirs]
    second = sum(rooms[one][0] for one in other_rooms) > sum(askers[one][1] for one in others) + links
    return first or second


class PipesOfPlaces(unittest.TestCase):

    def setUp(self):
        self.pipes = Pipes(4)
        for one, other, room in ((0, 1, 2), (0, 2, 1), (1, 2, 1), (1, 3, 1), (2, 3, 3)):
            self.pipes.lay(one, other, room)

    def test_a_pipe_below_nought_is_refused_and_changes_nothing(self):
        pipes = Pipes(2)
        with self.assertRaises(BadSize):
            pipes.lay(0, 1, -1)
        self.assertEqual((pipes.more_room(0, 1), pipes.ways_from(0)), (0, []))

    def test_a_pipe_of_nought_lets_nothing_through(self):
        pipes = Pipes(2)
        pipes.lay(0, 1, 0)
        self.assertEqual((pipes.more_room(0, 1), pipes.way(0, 1), pipes.send(0, 1)), (0, None, 0))

    def test_more_room(self):
        self.assertEqual([self.pipes.more_room(*ends) for ends in ((0, 1), (1, 0), (0, 3), (2, 3))], [2, 0, 0, 3])
        self.pipes.send(0, 3)
        # What goes one way may be taken back the other way.
        self.assertEqual([self.pipes.more_room(*ends) for ends in ((0, 1), (1, 0), (0, 2), (2, 0), (2, 3), (3, 2))],
                         [0, 2, 0, 1, 1, 2])

    def test_ways_from(self):
        self.assertEqual([self.pipes.ways_from(one) for one in range(4)], [[1, 2], [2, 3], [3], []])
        self.pipes.send(0, 3)
        self.assertEqual([self.pipes.ways_from(one) for one in range(4)], [[], [0], [0, 1, 3], [1, 2]])

    def test_way_is_a_shortest_one(self):
        self.assertIn(self.pipes.way(0, 3), ([0, 1, 3], [0, 2, 3]))
        self.assertEqual(self.pipes.way(1, 3), [1, 3])
        self.assertIsNone(self.pipes.way(3, 0))

    def test_send(self):
        self.assertEqual(self.pipes.send(0, 3), 3)
        self.assertEqual(self.pipes.send(0, 3), 0)
        self.assertIsNone(self.pipes.way(0, 3))
        for (one, other), much in self.pipes.going.items():
            self.assertTrue(0 <= much <= self.pipes.room[(one, other)], (one, other))

    def test_send_takes_back_what_stands_in_the_way(self):
        # The shortest way, over 1 and 2, must be taken back in the middle for both to get through.
        pipes = Pipes(8)
        for one, other in ((0, 1), (1, 2), (2, 7), (0, 3), (3, 4), (4, 2), (1, 5), (5, 6), (6, 7)):
            pipes.lay(one, other, 1)
        self.assertEqual(pipes.way(0, 7), [0, 1, 2, 7])
        self.assertEqual(pipes.send(0, 7), 2)
        self.assertEqual(pipes.going[(1, 2)], 0)

    def test_pipes_both_ways(self):
        pipes = Pipes(3)
        pipes.lay(0, 1, 2)
        pipes.lay(1, 0, 3)
        pipes.lay(1, 2, 5)
        self.assertEqual(pipes.send(0, 2), 2)
        self.assertEqual((pipes.more_room(0, 1), pipes.more_room(1, 0)), (0, 5))

    def test_what_goes_one_way_is_taken_back_and_the_rest_goes_the_other_way(self):
        pipes = Pipes(2)
        pipes.lay(0, 1, 2)
        pipes.lay(1, 0, 3)
        self.assertEqual(pipes.send(1, 0), 3)
        self.assertEqual(pipes.send(0, 1), 5)
        self.assertEqual((pipes.going[(0, 1)], pipes.going[(1, 0)]), (2, 0))
        self.assertEqual((pipes.more_room(0, 1), pipes.more_room(1, 0)), (0, 5))

    def test_two_pipes_between_the_same_places_let_both_through(self):
        pipes = Pipes(2)
        pipes.lay(0, 1, 2)
        pipes.lay(0, 1, 3)
        self.assertEqual(pipes.send(0, 1), 5)

    def test_reached(self):
        self.assertEqual(self.pipes.reached(1), (1, 2, 3))
        self.pipes.send(0, 3)
        self.assertEqual(self.pipes.reached(0), (0,))
        self.assertEqual(self.pipes.reached(2), (0, 1, 2, 3))

    def test_send_is_as_much_as_the_smallest_cut(self):
        chance = random.Random(2001)
        for _ in range(120):
            many = chance.randint(2, 5)
            pipes = Pipes(many)
            rooms = {}
            for one in range(many):
                for other in range(many):
                    if one != other and chance.random() < 0.5:
                        rooms[(one, other)] = chance.randint(0, 3)
                        pipes.lay(one, other, rooms[(one, other)])
            cuts = [lot + (0,) for lot in all_lots(many) if 0 not in lot and many - 1 not in lot]
            worths = [sum(room for (one, other), room in rooms.items() if one in cut and other not in cut)
                      for cut in cuts]
            self.assertEqual(pipes.send(0, many - 1), min(worths))


class WantsOfBoth(unittest.TestCase):

    def test_wrong_bounds_are_refused(self):
        for lists, askers, rooms in (
            (((0,),), (), ((0, 1),)),
            (((0,),), ((0, 1), (0, 1)), ((0, 1),)),
            (((0,),), ((-1, 1),), ((0, 1),)),
            (((0,),), ((2, 1),), ((0, 1),)),
            (((0,),), ((0, 1),), ((-1, 0),)),
            (((0,),), ((0, 1),), ((1, 0),)),
            (((0,),), ((0, 1),), ((0, -1),)),
        ):
            with self.assertRaises(BadSize):
                Wants(lists, askers, rooms)

    def test_rooms_that_are_not_there_are_refused(self):
        for row in ((1,), (-1,), (0, 1)):
            with self.assertRaises(BadSize):
                Wants((row,), ((0, 1),), ((0, 1),))

    def test_linked(self):
        wants = Wants(((0, 1), (1,), ()), ((0, 1),) * 3, ((0, 1),) * 2)
        self.assertEqual(wants.linked((0, 1, 2), (0, 1)), 3)
        self.assertEqual(wants.linked((0, 1), (1,)), 2)
        self.assertEqual(wants.linked((2,), (0, 1)), 0)
        self.assertEqual(wants.linked((), (0, 1)), 0)
        self.assertEqual(wants.linked((0,), ()), 0)

    def test_rows_may_be_lists(self):
        self.assertEqual(most(Wants([[0]], [[0, 1]], [[0, 1]])), ((0, 0),))


class LaidPipes(unittest.TestCase):

    def test_pipes_of_most(self):
        wants = Wants(((0, 1), (0,)), ((1, 2), (0, 1)), ((0, 1), (1, 1)))
        pipes, (start, end), must = laid(wants, False)
        self.assertEqual(must, 0)
        self.assertEqual(pairs_of(wants, pipes), ())
        self.assertEqual(pipes.send(start, end), 2)
        self.assertEqual(len(pairs_of(wants, pipes)), 2)

    def test_pipes_of_least(self):
        wants = Wants(((0, 1), (0,)), ((1, 2), (1, 1)), ((0, 1), (1, 1)))
        pipes, (start, end), must = laid(wants, True)
        self.assertEqual(must, 3)
        self.assertEqual(pipes.send(start, end), 3)
        self.assertEqual(pairs_of(wants, pipes), ((0, 1), (1, 0)))

    def test_pairs_of(self):
        wants = Wants(((0, 1), (1,)), ((0, 2), (0, 1)), ((0, 1), (0, 2)))
        pipes, (start, end), _ = laid(wants, False)
        pipes.send(start, end)
        self.assertEqual(pairs_of(wants, pipes), ((0, 0), (0, 1), (1, 1)))


class Most(unittest.TestCase):

    def test_as_many_as_can_be(self):
        for lists, askers, rooms in some_wants(120, 2002):
            wants = Wants(lists, askers, rooms)
            found = most(wants)
            best = max(len(pairs) for pairs in all_sets(lists) if within(pairs, askers, rooms, False))
            self.assertEqual(len(found), best)
            self.assertEqual(found, tuple(sorted(set(found))))
            self.assertTrue(within(found, askers, rooms, False))
            self.assertTrue(all(room in lists[asker] for asker, room in found))

    def test_cut_shows_it(self):
        for lists, askers, rooms in some_wants(120, 2003):
            wants = Wants(lists, askers, rooms)
            cut = most_cut(wants)
            self.assertEqual(cut_worth(wants, cut), len(most(wants)))
            for side in cut:
                self.assertEqual(side, tuple(sorted(set(side))))

    def test_cut_worth_lets_by_at_least_as_many_as_can_be(self):
        for lists, askers, rooms in some_wants(40, 2004):
            wants = Wants(lists, askers, rooms)
            for mine in all_lots(len(askers)):
                for theirs in all_lots(len(rooms)):
                    links = len([1 for one in mine for room in lists[one] if room not in theirs])
                    others = sum(askers[one][1] for one in range(len(askers)) if one not in mine)
                    worth = others + sum(rooms[one][1] for one in theirs) + links
                    self.assertEqual(cut_worth(wants, (mine, theirs)), worth)
                    self.assertGreaterEqual(worth, len(most(wants)))

    def test_nobody_and_no_rooms(self):
        for wants in (Wants((), (), ()), Wants((), (), ((0, 2),)), Wants(((), ()), ((0, 1), (0, 0)), ())):
            self.assertEqual(most(wants), ())
            self.assertEqual(with_least(wants), ())
            self.assertIsNone(short_cut(wants))
            self.assertEqual(cut_worth(wants, most_cut(wants)), 0)

    def test_askers_still_to_be_reached(self):
        # 0 may have two but lists one room; 1 has none of the two places it could have.
        wants = Wants(((0,), (0,)), ((0, 2), (0, 1)), ((0, 1),))
        self.assertEqual(most_cut(wants), ((0, 1), (0,)))
        self.assertEqual(most_cut(Wants(((0,),), ((0, 1),), ((0, 1),))), ((), ()))

    def test_bounds_of_nought(self):
        wants = Wants(((0,), (0,)), ((0, 0), (0, 3)), ((0, 3),))
        self.assertEqual(most(wants), ((1, 0),))
        self.assertEqual(most(Wants(((0,),), ((0, 3),), ((0, 0),))), ())


class Least(unittest.TestCase):

    def test_pairs_keep_all_bounds_where_some_do(self):
        ones = [0, 0]
        for lists, askers, rooms in some_wants(300, 2005, most_of=2):
            wants = Wants(lists, askers, rooms)
            can = [pairs for pairs in all_sets(lists) if within(pairs, askers, rooms, True)]
            found, cut = with_least(wants), short_cut(wants)
            ones[len(can) > 0] += 1
            if can:
                self.assertIn(found, [tuple(sorted(pairs)) for pairs in can])
                self.assertIsNone(cut)
            else:
                self.assertIsNone(found)
                self.assertTrue(check_cut(wants, cut))
                self.assertTrue(shows(lists, askers, rooms, *cut))
        self.assertGreater(min(ones), 40)

    def test_least_counts_above_what_can_be(self):
        # Each of the two counts is needed: an asker's least count, then a room's.
        wants = Wants(((0,),), ((2, 2),), ((0, 5),))
        self.assertIsNone(with_least(wants))
        self.assertTrue(check_cut(wants, short_cut(wants)))
        wants = Wants(((0,),), ((0, 5),), ((2, 2),))
        self.assertIsNone(with_least(wants))
        self.assertTrue(check_cut(wants, short_cut(wants)))

    def test_least_counts_of_a_room_that_nobody_lists(self):
        wants = Wants(((),), ((0, 1),), ((1, 1),))
        self.assertIsNone(with_least(wants))
        self.assertTrue(check_cut(wants, short_cut(wants)))

    def test_most_counts_are_kept_where_least_counts_ask_for_more(self):
        # Both rooms must have somebody, and the one asker may have but one; then the other way round.
        for wants in (Wants(((0, 1),), ((1, 1),), ((1, 1), (1, 1))), Wants(((0,), (0,)), ((1, 1), (1, 1)), ((1, 1),))):
            self.assertIsNone(with_least(wants))
            self.assertTrue(check_cut(wants, short_cut(wants)))

    def test_counts_that_are_told_to_the_last_one(self):
        chance = random.Random(2008)
        ones = [0, 0]
        for lists, _, _ in some_wants(300, 2009):
            askers = tuple((most_of - chance.choice((0, 0, min(1, most_of))), most_of)
                           for most_of in [chance.randint(0, 2) for _ in lists])
            many = max([room + 1 for row in lists for room in row], default=0)
            rooms = tuple((most_of, most_of) for most_of in [chance.randint(0, 2) for _ in range(many)])
            wants = Wants(lists, askers, rooms)
            can = [tuple(sorted(pairs)) for pairs in all_sets(lists) if within(pairs, askers, rooms, True)]
            ones[len(can) > 0] += 1
            if can:
                self.assertIn(with_least(wants), can)
                self.assertIsNone(short_cut(wants))
            else:
                self.assertIsNone(with_least(wants))
                self.assertTrue(shows(lists, askers, rooms, *short_cut(wants)))
        self.assertGreater(min(ones), 40)

    def test_least_counts_are_kept_though_fewer_go_by(self):
        # 0 must have both rooms, so that 1 has none.
        wants = Wants(((0, 1), (0, 1)), ((2, 2), (0, 2)), ((1, 1), (1, 1)))
        self.assertEqual(with_least(wants), ((0, 0), (0, 1)))


class Keeps(unittest.TestCase):

    def test_each_set_of_pairs(self):
        for lists, askers, rooms in some_wants(60, 2006):
            wants = Wants(lists, askers, rooms)
            for pairs in all_sets(lists):
                self.assertEqual(keeps(wants, pairs), within(pairs, askers, rooms, True))

    def test_what_is_not_listed_or_told_twice(self):
        wants = Wants(((0, 1), (0,)), ((0, 2), (0, 2)), ((0, 3), (0, 3)))
        self.assertTrue(keeps(wants, ((1, 0), (0, 0))))
        for pairs in (((1, 1),), ((0, 0), (0, 0)), ((2, 0),), ((-1, 0),), ((0, 2),), ((0, -1),)):
            self.assertFalse(keeps(wants, pairs), pairs)


class CheckCut(unittest.TestCase):

    def test_just_the_cuts_that_show_it_are_taken(self):
        taken = 0
        for lists, askers, rooms in some_wants(80, 2007, most_of=2):
            wants = Wants(lists, askers, rooms)
            for mine in all_lots(len(askers)):
                for theirs in all_lots(len(rooms)):
                    if shows(lists, askers, rooms, mine, theirs):
                        self.assertIs(check_cut(wants, (mine, theirs)), True)
                        self.assertIsNone(with_least(wants))
                        taken += 1
                    else:
                        with self.assertRaises(BadPaper):
                            check_cut(wants, (mine, theirs))
        self.assertGreater(taken, 40)

    def test_cuts_off_by_one(self):
        # Three least counts against one most count and one link: a count less would not show it.
        lists = ((0, 1), (0,))
        for least, takes in ((2, True), (1, False)):
            wants = Wants(lists, ((least, 2), (1, 1)), ((0, 1), (0, 1)))
            if takes:
                self.assertIs(check_cut(wants, ((0, 1), (0,))), True)
            else:
                with self.assertRaises(BadPaper):
                    check_cut(wants, ((0, 1), (0,)))

    def test_the_other_count_off_by_one(self):
        for least, takes in ((2, True), (1, False)):
            wants = Wants(((0,), ()), ((0, 1), (0, 0)), ((least, 2),))
            if takes:
                self.assertIs(check_cut(wants, ((), ())), True)
            else:
                with self.assertRaises(BadPaper):
                    check_cut(wants, ((), ()))

    def test_numbers_twice_or_not_there(self):
        wants = Wants(((0,),), ((2, 2),), ((0, 5),))
        self.assertIs(check_cut(wants, ((0,), ())), True)
        for cut in (((0, 0), ()), ((1,), ()), ((-1,), ()), ((0, 1), ()), ((0,), (1,)), ((0,), (-1,)),
                    ((0,), (0, 0))):
            with self.assertRaises(BadPaper):
                check_cut(wants, cut)
        wants = Wants((), (), ((1, 1), (0, 0)))
        self.assertIs(check_cut(wants, ((), (1,))), True)
        for cut in (((), (1, 1)), ((), (2,)), ((0,), (1,))):
            with self.assertRaises(BadPaper):
                check_cut(wants, cut)

    def test_sides_may_be_lists(self):
        wants = Wants([[0]], [(2, 2)], [(0, 5)])
        self.assertIs(check_cut(wants, [[0], []]), True)


if __name__ == "__main__":
    unittest.main()
