"""Point 12: covers."""

import random
import unittest
from itertools import product

from pairmart.covers import Links, all_paired, check_pairs, check_short, count_pairs, move_along
from pairmart.errors import BadPaper, BadSize
from small import all_lots, all_pairs


def some_links(count, seed, most=4):
    """Links of two sides of up to so many, the same ones for the same seed."""
    chance = random.Random(seed)
    found = []
    for _ in range(count):
        many, wide = chance.randint(0, most), chance.randint(0, most)
        likely = chance.choice((0.2, 0.4, 0.7))
        found.append(Links([[other for other in range(wide) if chance.random() < likely] for _ in range(many)], wide))
    return found


def linked_pairs(links):
    """All ways to pair the two sides along links."""
    return [pairs for pairs in all_pairs(len(links.rows), links.many)
            if all(other is None or other in links.rows[one] for one, other in enumerate(pairs))]


def most_of(links):
    """How many pairs there can be, by trying all."""
    return max(len(pairs) - pairs.count(None) for pairs in linked_pairs(links))


class Pairs(unittest.TestCase):

    def test_fields(self):
        links = Links([[1, 0], (), [2]], 3)
        self.assertEqual((links.rows, links.many), (((1, 0), (), (2,)), 3))

    def test_links_to_who_is_not_there_are_refused(self):
        for rows, many in ((((0,),), 0), (((0, 2),), 2), (((), (-1,)), 2)):
            with self.assertRaises(BadSize):
                Links(rows, many)

    def test_nobody_and_no_links(self):
        none = Links((), 0)
        self.assertEqual((none.most_pairs(), none.cover(), none.short_lot()), ((), ((), ()), None))
        self.assertEqual(all_paired(none), ((), None))
        self.assertIs(check_pairs(none, (), ((), ())), True)
        bare = Links(((), ()), 3)
        self.assertEqual((bare.most_pairs(), bare.cover(), bare.short_lot()), ((None, None), ((), ()), (0, 1)))
        self.assertEqual(all_paired(bare), (None, (0, 1)))
        self.assertIs(check_pairs(bare, (None, None), ((), ())), True)
        self.assertEqual(all_paired(Links((), 2)), ((), None))

    def test_most_pairs(self):
        self.assertEqual(Links(((0,), (0, 1), (1, 2)), 3).most_pairs(), (0, 1, 2))
        self.assertEqual(Links(((0, 1), (0,)), 2).most_pairs(), (1, 0))
        self.assertEqual(Links(((0,), (0,)), 1).most_pairs(), (0, None))

    def test_as_many_as_can_be(self):
        for links in some_links(300, 221):
            pairs = links.most_pairs()
            self.assertIn(pairs, linked_pairs(links))
            self.assertEqual(count_pairs(pairs), most_of(links))
            ones, others = links.cover()
            self.assertEqual(len(ones) + len(others), most_of(links))
            self.assertEqual((ones, others), (tuple(sorted(set(ones))), tuple(sorted(set(others)))))
            self.assertTrue(all(one in ones or other in others
                                for one, row in enumerate(links.rows) for other in row))
            self.assertIs(check_pairs(links, pairs, (ones, others)), True)

    def test_long_ways(self):
        many = 300
        links = Links([(one, one + 1) for one in range(many - 1)] + [(0,)], many)
        self.assertEqual(links.most_pairs(), tuple(range(1, many)) + (0,))

    def test_lengthen(self):
        links = Links(((0,), (0, 1), (1,)), 2)
        owner = [None, None]
        self.assertIs(links.lengthen(owner, 1), True)
        self.assertEqual(owner, [1, None])
        self.assertIs(links.lengthen(owner, 0), True)
        self.assertEqual(owner, [0, 1])
        self.assertIs(links.lengthen(owner, 2), False)
        self.assertEqual(owner, [0, 1])

    def test_move_along(self):
        owner = [1, 2, None]
        # 0 comes to other 0, whose 1 comes to other 1, whose 2 comes to other 2.
        self.assertIsNone(move_along(owner, {0: 0, 1: 1, 2: 2}, 2, 0))
        self.assertEqual(owner, [0, 1, 2])
        owner = [None, 5]
        move_along(owner, {0: 3}, 0, 3)
        self.assertEqual(owner, [3, 5])

    def test_reached(self):
        links = Links(((0,), (0, 1), (2,), (2, 3), (4,)), 5)
        self.assertEqual(links.reached((None, 0, 2, 3, None)), ((0, 1, 4), (0, 1, 4)))
        self.assertEqual(links.reached((0, 1, None, 2, 4)), ((2, 3), (2, 3)))
        self.assertEqual(links.reached((0, 1, 2, 3, 4)), ((), ()))
        self.assertEqual(links.reached([None] * 5), ((0, 1, 2, 3, 4), (0, 1, 2, 3, 4)))

    def test_reached_is_told_in_order(self):
        links = Links(((1,), (1, 0), (0,)), 2)
        self.assertEqual(links.reached((0, 1, None)[::-1]), ((0, 1, 2), (0, 1)))

    def test_cover(self):
        self.assertEqual(Links(((0, 1, 2), (0,), (0,)), 3).cover(), ((0,), (0,)))
        self.assertEqual(Links(((0,), (0,)), 1).cover(), ((), (0,)))
        self.assertEqual(Links(((0,), (1,)), 2).cover(), ((0, 1), ()))

    def test_count_pairs(self):
        self.assertEqual([count_pairs(pairs) for pairs in ((), (None,), (0, None, 2))], [0, 0, 2])


class Shown(unittest.TestCase):

    def setUp(self):
        self.links = Links(((0, 1, 2), (0,), (0,)), 3)

    def test_what_are_no_pairs_is_refused(self):
        cover = ((0,), (0,))
        self.assertIs(check_pairs(self.links, [1, None, 0], [[0], [0]]), True)
        for pairs in ((1, 0), (1, 0, None, None), (1, 0, 0), (1, 1, 0), (1, 2, None), (1, -3, None), (1, 3, None), ()):
            with self.assertRaises(BadPaper):
                check_pairs(self.links, pairs, cover)
        with self.assertRaises(BadPaper):
            check_pairs(Links(((0,), (0,)), 1), (0, 0), ((0, 1), ()))

    def test_covers_that_are_off(self):
        for cover in (((0,), ()), ((), (0,)), ((0, 1), (0,)), ((0, 1, 2), ()), ((), (0, 1, 2)), ((0,), (0, 0)),
                      ((0, 0), (0,)), ((0, 9), (0,)), ((0,), (0, -1)), ((), ()), ((0, 0), ()), ((1,), (0,))):
            with self.assertRaises(BadPaper):
                check_pairs(self.links, (1, 0, None), cover)

    def test_pairs_that_are_not_the_most(self):
        for cover in (((0,), (0,)), ((0,), ()), ((), (0,))):
            for pairs in ((0, None, None), (None, None, None), (1, None, None)):
                with self.assertRaises(BadPaper):
                    check_pairs(self.links, pairs, cover)

    def test_just_when_pairs_and_covers_are_taken(self):
        taken = 0
        for links in some_links(50, 222, most=3):
            many = most_of(links)
            fitting = linked_pairs(links)
            for cover in product(all_lots(len(links.rows)), all_lots(links.many)):
                touches = all(one in cover[0] or other in cover[1]
                              for one, row in enumerate(links.rows) for other in row)
                for pairs in all_pairs(len(links.rows), links.many):
                    shown = pairs in fitting and touches and count_pairs(pairs) == sum(map(len, cover))
                    if shown:
                        taken += 1
                        self.assertEqual(count_pairs(pairs), many)
                        self.assertIs(check_pairs(links, pairs, cover), True)
                    else:
                        with self.assertRaises(BadPaper):
                            check_pairs(links, pairs, cover)
        self.assertGreater(taken, 50)

    def test_short_lots(self):
        self.assertEqual(self.links.short_lot(), (1, 2))
        self.assertIs(check_short(self.links, [2, 1]), True)
        for lot in ((), (0,), (1,), (0, 1), (0, 1, 2), (1, 1), (1, 2, 2), (1, 2, 3), (1, 2, -1), (-1, -2), (9,)):
            with self.assertRaises(BadPaper):
                check_short(self.links, lot)
        self.assertIs(check_short(Links(((),), 0), (0,)), True)
        with self.assertRaises(BadPaper):
            check_short(Links(((),), 0), (0, 0))

    def test_just_when_short_lots_are_taken(self):
        for links in some_links(120, 223):
            short = []
            for lot in all_lots(len(links.rows)):
                if len({other for one in lot for other in links.rows[one]}) < len(lot):
                    short.append(lot)
                    self.assertIs(check_short(links, lot), True)
                else:
                    with self.assertRaises(BadPaper):
                        check_short(links, lot)
            self.assertEqual(bool(short), most_of(links) < len(links.rows))
            self.assertEqual(links.short_lot() is None, short == [])
            self.assertTrue(links.short_lot() is None or links.short_lot() in short)

    def test_all_paired(self):
        self.assertEqual(all_paired(self.links), (None, (1, 2)))
        self.assertEqual(all_paired(Links(((1,), (0, 1)), 2)), ((1, 0), None))
        for links in some_links(120, 224):
            pairs, lot = all_paired(links)
            if most_of(links) == len(links.rows):
                self.assertEqual((pairs, lot), (links.most_pairs(), None))
            else:
                self.assertEqual((pairs, lot), (None, links.short_lot()))
                self.assertIs(check_short(links, lot), True)


if __name__ == "__main__":
    unittest.main()
