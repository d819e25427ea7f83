"""Point 15: friends."""

import random
import unittest
from itertools import combinations

from pairmart.blossoms import (
    Forest, Friends, check_mates, hard_lot, most_pairs, odd_parts, pair_up, pairs_without, parts, with_papers,
)
from pairmart.errors import BadPaper, BadSize
from small import all_lots


def ring_of(*ones):
    """The links of a ring."""
    return tuple(zip(ones, ones[1:] + ones[:1]))


def some_friends(count, seed, most=7):
    """(how many, links) of up to so many, the same ones for the same seed."""
    chance = random.Random(seed)
    found = []
    for _ in range(count):
        many = chance.randint(0, most)
        likely = chance.choice((0.2, 0.35, 0.6))
        found.append((many, [pair for pair in combinations(range(many), 2) if chance.random() < likely]))
    return found


def all_mates(many, links):
    """All ways to pair friends, as tuples of mates."""
    ways = [(None,) * many]
    for one, other in links:
        for mates in list(ways):
            if mates[one] is None and mates[other] is None:
                paired = list(mates)
                paired[one], paired[other] = other, one
                ways.append(tuple(paired))
    return ways


def alone(mates):
    """How many have no mate."""
    return list(mates).count(None)


def odd_ones(many, links, gone):
    """How many parts of odd size are left, by drawing parts together."""
    part = {one: one for one in range(many) if one not in gone}
    for one, other in links:
        if one in part and other in part:
            old, new = part[one], part[other]
            part = {each: new if name == old else name for each, name in part.items()}
    return len([name for name in set(part.values()) if list(part.values()).count(name) % 2])


class MostPairs(unittest.TestCase):

    def test_fields(self):
        friends = Friends(4, [(0, 2), (2, 1), [1, 2]])
        self.assertEqual(friends.count, 4)
        self.assertEqual({one: sorted(friends.near[one]) for one in range(4)}, {0: [2], 1: [2], 2: [0, 1], 3: []})

    def test_who_is_not_there_and_links_to_oneself_are_refused(self):
        for many, links in ((0, ((0, 1),)), (2, ((0, 2),)), (2, ((2, 0),)), (2, ((-1, 0),)), (2, ((1, -1),)),
                            (2, ((1, 1),)), (3, ((0, 1), (2, 2)))):
            with self.assertRaises(BadSize):
                Friends(many, links)

    def test_nobody_one_alone_and_no_links(self):
        self.assertEqual(with_papers(Friends(0, ())), ((), ()))
        self.assertEqual(with_papers(Friends(1, ())), ((None,), ()))
        self.assertEqual(with_papers(Friends(3, ())), ((None,) * 3, ()))
        self.assertEqual((parts({}), odd_parts(Friends(0, ()), ())), ((), 0))
        for many in (0, 1, 3):
            self.assertIs(check_mates(Friends(many, ()), (None,) * many, ()), True)
            self.assertEqual(pairs_without(Friends(many, ()), ()), 0)

    def test_without(self):
        friends = Friends(4, [(0, 1), (1, 2), (2, 3)])
        left = friends.without((1,))
        self.assertEqual({one: tuple(near) for one, near in left.items()}, {0: (), 2: (3,), 3: (2,)})
        self.assertEqual(friends.without([]).keys(), {0: 1, 1: 1, 2: 1, 3: 1}.keys())
        self.assertEqual(list(friends.without((0, 0, 9, -1, 2))), [1, 3])
        self.assertEqual(friends.without((0, 1, 2, 3)), {})

    def test_rings_of_odd_length(self):
        self.assertEqual(alone(most_pairs(Friends(5, ring_of(0, 1, 2, 3, 4)))), 1)
        self.assertEqual(alone(most_pairs(Friends(6, ring_of(0, 1, 2, 3, 4) + ((4, 5),)))), 0)
        two = ring_of(0, 1, 2) + ((2, 3),) + ring_of(3, 4, 5)
        self.assertEqual(alone(most_pairs(Friends(6, two))), 0)

    def test_rings_of_odd_length_one_within_another(self):
        # A ring of three in a ring of five: its base is one of the five; stalks lead in and out.
        links = ring_of(2, 3, 4) + ((1, 2), (4, 5), (5, 6), (6, 1)) + ((0, 1), (3, 7), (7, 8), (8, 9))
        for many, extra in ((10, ()), (12, ((9, 10), (10, 11))), (11, ((6, 10),))):
            best = min(map(alone, all_mates(many, links + extra)))
            friends = Friends(many, links + extra)
            self.assertEqual(alone(most_pairs(friends)), best)
            self.assertIs(check_mates(friends, *with_papers(friends)), True)

    def test_as_many_as_can_be(self):
        for many, links in some_friends(400, 251):
            mates = most_pairs(Friends(many, links))
            ways = all_mates(many, links)
            self.assertIn(mates, ways)
            self.assertEqual(alone(mates), min(map(alone, ways)))

    def test_many_friends_whatever_their_numbers(self):
        chance = random.Random(252)
        for _ in range(40):
            many = 24
            links = [pair for pair in combinations(range(many), 2) if chance.random() < 0.09]
            names = chance.sample(range(many), many)
            friends = Friends(many, links)
            other = Friends(many, [(names[one], names[two]) for one, two in links])
            self.assertEqual(alone(most_pairs(friends)), alone(most_pairs(other)))
            # That the lot shows it is enough: no more pairs can be where one does.
            self.assertIs(check_mates(friends, *with_papers(friends)), True)

    def test_long_paths(self):
        many = 200
        friends = Friends(many, [(one, one + 1) for one in range(many - 1)])
        self.assertEqual(alone(most_pairs(friends)), 0)

    def test_pair_up(self):
        self.assertEqual(pair_up({0: (1,), 1: (0,)}), {0: 1, 1: 0})
        self.assertEqual(pair_up({}), {})
        # Who has no mate doesn't stand in the table.
        self.assertEqual(pair_up({7: (9,), 8: (), 9: (7,)}), {7: 9, 9: 7})
        self.assertEqual(pair_up({0: (), 1: ()}), {})
        for many, links in some_friends(60, 255):
            friends = Friends(many, links)
            mates = pair_up(friends.near)
            self.assertEqual({mate: one for one, mate in mates.items()}, mates)
            self.assertEqual(tuple([mates.get(one) for one in range(many)]), most_pairs(friends))

    def test_pairs_without(self):
        path = Friends(4, ((0, 1), (1, 2), (2, 3)))
        self.assertEqual([pairs_without(path, gone) for gone in ((), (0,), (1,), (1, 2), (0, 0), (9, -1), (1, 1, 4))],
                         [2, 1, 1, 0, 1, 2, 1])
        for many, links in some_friends(60, 253, most=5):
            for gone in all_lots(many):
                left = [pair for pair in links if not set(pair) & set(gone)]
                best = max((many - alone(mates)) // 2 for mates in all_mates(many, left))
                self.assertEqual(pairs_without(Friends(many, links), gone), best)


class Searching(unittest.TestCase):

    def setUp(self):
        # A ring of five; 1 and 2, 4 and 3 are together; 5 is a friend of 1 alone.
        self.near = {0: (1, 4), 1: (0, 2, 5), 2: (1, 3), 3: (2, 4), 4: (0, 3), 5: (1,)}
        self.mates = {0: None, 1: 2, 2: 1, 3: 4, 4: 3, 5: None}
        self.forest = Forest(self.near, self.mates)

    def come_up(self):
        """The search from 0 when 2 is about to meet 3."""
        self.forest.begin(0)
        self.forest.came.update({1: 0, 4: 0})
        self.forest.even.update({2: True, 3: True})

    def test_fields_and_begin(self):
        self.assertIs(self.forest.near, self.near)
        self.assertIs(self.forest.mates, self.mates)
        self.assertIsNone(self.forest.begin(0))
        self.assertEqual(self.forest.base, {one: one for one in range(6)})
        self.assertEqual((self.forest.even, self.forest.came, self.forest.waiting), ({0: True}, {}, [0]))

    def test_up_and_meet(self):
        self.come_up()
        self.assertEqual([self.forest.up(one) for one in (0, 2, 3)], [[0], [2, 0], [3, 0]])
        self.assertEqual((self.forest.meet(2, 3), self.forest.meet(0, 3), self.forest.meet(2, 2)), (0, 0, 2))

    def test_mark(self):
        self.come_up()
        blossom = {}
        self.assertIsNone(self.forest.mark(2, 0, 3, blossom))
        self.assertEqual((sorted(blossom), self.forest.came[2]), ([1, 2], 3))
        self.forest.mark(0, 0, 3, blossom)
        self.assertEqual(sorted(blossom), [1, 2])

    def test_draw_in(self):
        self.come_up()
        self.assertIsNone(self.forest.draw_in(2, 3))
        self.assertEqual([self.forest.base[one] for one in range(6)], [0, 0, 0, 0, 0, 5])
        self.assertEqual(sorted(self.forest.even), [0, 1, 2, 3, 4])
        self.assertEqual(sorted(self.forest.waiting), [0, 1, 4])
        self.assertEqual((self.forest.came[2], self.forest.came[3]), (3, 2))

    def test_search_and_turn_over(self):
        self.assertEqual(self.forest.search(0), 5)
        self.assertIsNone(self.forest.turn_over(5))
        self.assertEqual([self.mates[one] for one in range(6)], [4, 5, 3, 2, 0, 1])

    def test_no_way(self):
        forest = Forest({0: (1,), 1: (0, 2), 2: (1,)}, {0: None, 1: 2, 2: 1})
        self.assertIsNone(forest.search(0))
        self.assertEqual(sorted(forest.even), [0, 2])
        self.assertIsNone(Forest({0: ()}, {0: None}).search(0))

    def test_a_search_begins_anew(self):
        forest = Forest({0: (1, 2), 1: (0,), 2: (0,)}, {0: 1, 1: 0, 2: None})
        for _ in range(2):
            self.assertIsNone(forest.search(2))
            self.assertEqual((sorted(forest.even), forest.came), ([1, 2], {0: 2}))
        forest.draw_in(1, 2)
        forest.begin(2)
        self.assertEqual((forest.base, forest.came, forest.even), ({0: 0, 1: 1, 2: 2}, {}, {2: True}))


class Shown(unittest.TestCase):

    def test_hard_lot(self):
        # Three ones hang on 0: two of them stay alone.
        self.assertEqual(hard_lot(Friends(4, ((0, 1), (0, 2), (0, 3)))), (0,))
        self.assertEqual(hard_lot(Friends(2, ((0, 1),))), ())
        self.assertEqual(hard_lot(Friends(3, ring_of(0, 1, 2))), ())
        self.assertEqual(hard_lot(Friends(3, ((0, 1), (1, 2)))), (1,))

    def test_the_lot_is_the_friends_of_those_who_may_stay_alone(self):
        some = 0
        for many, links in some_friends(250, 254):
            ways = all_mates(many, links)
            best = min(map(alone, ways))
            single = {one for mates in ways if alone(mates) == best for one in range(many) if mates[one] is None}
            lot = sorted({one for pair in links for one in pair if set(pair) & single and one not in single})
            some += lot != []
            friends = Friends(many, links)
            self.assertEqual(hard_lot(friends), tuple(lot))
            self.assertIs(check_mates(friends, most_pairs(friends), lot), True)
            self.assertEqual(with_papers(friends), (most_pairs(friends), tuple(lot)))
        self.assertGreater(some, 40)

    def test_parts(self):
        self.assertEqual(parts({0: (3,), 1: (), 2: (4,), 3: (0,), 4: (2,)}), ((0, 3), (1,), (2, 4)))
        self.assertEqual(parts({5: [3], 3: [5, 4], 4: [3], 1: []}), ((1,), (3, 4, 5)))

    def test_odd_parts(self):
        friends = Friends(5, ((0, 1), (1, 2), (1, 3)))
        self.assertEqual([odd_parts(friends, gone) for gone in ((), (1,), (4,), (1, 4), (0, 1, 2, 3, 4), (9, 0, 0))],
                         [1, 4, 0, 3, 0, 2])
        for many, links in some_friends(60, 255, most=6):
            for gone in all_lots(many):
                self.assertEqual(odd_parts(Friends(many, links), gone), odd_ones(many, links, gone))

    def test_mates_that_are_none_are_refused(self):
        friends = Friends(4, ((0, 1), (1, 2), (1, 3)))
        self.assertIs(check_mates(friends, [1, 0, None, None], [1]), True)
        for mates in ((1, 0, None), (1, 0, None, None, None), (1, None, None, None), (None, 0, None, None),
                      (1, 2, 1, None), (2, None, 0, None), (0, None, None, None), (4, 0, None, None),
                      (-3, 0, None, None), (1, 0, 3, 2), (1, None, 1, None), ()):
            with self.assertRaises(BadPaper):
                check_mates(friends, mates, (1,))
        with self.assertRaises(BadPaper):
            check_mates(Friends(3, ((1, 2),)), (None,), ())

    def test_lots_that_show_nothing_are_refused(self):
        friends = Friends(4, ((0, 1), (1, 2), (1, 3)))
        for lot in ((), (0,), (2,), (0, 1), (1, 1), (1, 4), (1, -1), (9,), (-3,), (0, 1, 2, 3), (1, 1, 1)):
            with self.assertRaises(BadPaper):
                check_mates(friends, (1, 0, None, None), lot)
        for lot in ((1,), ()):
            with self.assertRaises(BadPaper):
                check_mates(friends, (None, None, None, None), lot)

    def test_just_when_a_paper_is_taken(self):
        taken = 0
        for many, links in some_friends(40, 256, most=5):
            friends = Friends(many, links)
            ways = all_mates(many, links)
            best = min(map(alone, ways))
            for mates in ways:
                for lot in all_lots(many):
                    if odd_ones(many, links, lot) - len(lot) == alone(mates):
                        taken += 1
                        self.assertEqual(alone(mates), best)
                        self.assertIs(check_mates(friends, mates, lot), True)
                    else:
                        with self.assertRaises(BadPaper):
                            check_mates(friends, mates, lot)
        self.assertGreater(taken, 100)


if __name__ == "__main__":
    unittest.main()
