"""Point 6: papers of what is stable and of what is the askers' best, and their checker."""

import random
import unittest

from pairmart.asks import Asking, ask_all, offer_all, refusals
from pairmart.errors import BadMatch, BadPaper
from pairmart.markets import Market, is_stable
from pairmart.papers import (
    best_paper, both_papers, check_best, check_both, check_stable, holds_by_right, reach, refused_by, stable_paper,
    why_not,
)
from small import all_matches, by_place, full_markets, some_markets, stable_ones


def asked(lists, orders, seats):
    """The matching and best paper of a market."""
    market = Market(lists, orders, seats)
    return market, ask_all(market), best_paper(market)


class StablePapers(unittest.TestCase):

    def setUp(self):
        # Room 0 has two seats, room 2 has none, and asker 3 isn't listed by room 1.
        self.market = Market(
            ((0, 1), (2, 0), (1, 0), (1, 0)), ((2, 1, 0, 3), (0, 2), (1,)), (2, 1, 0))
        self.match = (1, 0, 0, None)

    def test_rows_in_the_order_of_pairs(self):
        # Asker 0 would rather have room 0, which is full of better; asker 2 would rather have room 1 than room 0.
        self.assertEqual(stable_paper(self.market, self.match), (
            (0, 0, "full"), (1, 2, "full"), (2, 1, "full"), (3, 0, "full"),
        ))
        market = Market(((1, 0), (0, 1)), ((0, 1), (1, 0)), (1, 1))
        self.assertEqual(stable_paper(market, (1, 0)), ((0, 0, "has"), (1, 1, "has")))
        self.assertEqual(stable_paper(market, [0, 1]), ((0, 1, "full"), (1, 0, "full")))

    def test_has_stands_ahead_of_full(self):
        market = Market(((0, 1), (1,)), ((0,), (1, 0)), (1, 1))
        self.assertEqual(stable_paper(market, (0, 1)), ((0, 1, "has"),))

    def test_no_rows(self):
        self.assertEqual(stable_paper(Market((), (), ()), ()), ())
        self.assertEqual(stable_paper(Market(((0,),), ((),), (1,)), (None,)), ())

    def test_stable_paper_refuses(self):
        market = Market(((1, 0), (0, 1)), ((0, 1), (1, 0)), (1, 1))
        for match in ((None, None), (1, None), (None, 1)):
            with self.assertRaises(BadPaper):
                stable_paper(market, match)
        for lists, orders in ((((0,),), ((),)), (((),), ((0,),))):
            with self.assertRaises(BadPaper):
                stable_paper(Market(lists, orders, (1,)), (0,))

    def test_just_the_stable_ones_have_papers_and_these_are_taken(self):
        for market in some_markets(60, 61, askers=3, rooms=3):
            for match in all_matches(market.size(), market.seats):
                if is_stable(market, match):
                    paper = stable_paper(market, match)
                    due = tuple(pair for pair in market.pairs() if match[pair[0]] != pair[1])
                    self.assertEqual(tuple((asker, room) for asker, room, _ in paper), due)
                    self.assertIs(check_stable(market, match, paper), True)
                else:
                    with self.assertRaises(BadPaper):
                        stable_paper(market, match)

    def test_why_not(self):
        self.assertEqual(why_not(self.market, self.match, 0, 0), "full")
        self.assertEqual(why_not(self.market, (0, 0, 1, None), 0, 1), "has")
        self.assertEqual(why_not(self.market, self.match, 1, 2), "full")

    def test_why_not_refuses(self):
        # A free seat, a worse one inside, and one inside that isn't listed.
        for match, asker, room in (((None, None, None, None), 0, 1), ((0, None, 1, 0), 1, 0), ((None, 1, None, 1), 2, 1)):
            with self.assertRaises(BadPaper):
                why_not(self.market, match, asker, room)

    def test_check_stable_in_any_order(self):
        paper = list(stable_paper(self.market, self.match))
        for seed in range(5):
            random.Random(seed).shuffle(paper)
            self.assertIs(check_stable(self.market, self.match, paper), True)
        self.assertIs(check_stable(self.market, list(self.match), [list(row) for row in paper]), True)

    def test_check_stable_refuses_rows_left_out_told_twice_or_not_there(self):
        paper = stable_paper(self.market, self.match)
        for row in paper:
            rest = tuple(other for other in paper if other != row)
            for wrong in (rest, paper + (row,), rest + (paper[0],) * 2, rest + ((row[0], 9, row[2]),),
                          rest + ((9, row[1], row[2]),), rest + ((-1, row[1], row[2]),), rest + ((row[0], -1, row[2]),)):
                with self.assertRaises(BadPaper):
                    check_stable(self.market, self.match, wrong)
        for more in ((0, 1, "has"), (3, 1, "full"), (0, 2, "has"), (4, 0, "has"), (0, 3, "full")):
            with self.assertRaises(BadPaper):
                check_stable(self.market, self.match, paper + (more,))

    def test_check_stable_refuses_words_that_are_not_so(self):
        market = Market(((1, 0), (0, 1)), ((0, 1), (1, 0)), (1, 1))
        for match in ((1, 0), (0, 1)):
            paper = stable_paper(market, match)
            for at, row in enumerate(paper):
                for word in ("has", "full", "", "HAS", "free", "hasfull"):
                    if word != row[2]:
                        wrong = paper[:at] + ((row[0], row[1], word),) + paper[at + 1:]
                        if not (word == "full" and match == (1, 0)):
                            with self.assertRaises(BadPaper):
                                check_stable(market, match, wrong)

    def test_check_stable_refuses_full_of_a_room_with_a_free_seat(self):
        market = Market(((0, 1),), ((0,), (0,)), (1, 1))
        self.assertIs(check_stable(market, (0,), ((0, 1, "has"),)), True)
        with self.assertRaises(BadPaper):
            check_stable(market, (0,), ((0, 1, "full"),))

    def test_check_stable_refuses_full_of_a_room_with_a_worse_one(self):
        market = Market(((0, 1), (1,)), ((0,), (0, 1)), (1, 1))
        self.assertIs(check_stable(market, (0, 1), ((0, 1, "has"),)), True)
        with self.assertRaises(BadPaper):
            check_stable(market, (0, 1), ((0, 1, "full"),))

    def test_full_is_so_of_one_who_has_better_too(self):
        market = Market(((0, 1), (1,)), ((0,), (1, 0)), (1, 1))
        self.assertIs(check_stable(market, (0, 1), ((0, 1, "full"),)), True)

    def test_check_stable_refuses_the_unwanted(self):
        for lists, orders in ((((0,),), ((),)), (((),), ((0,),))):
            with self.assertRaises(BadPaper):
                check_stable(Market(lists, orders, (1,)), (0,), ())

    def test_check_stable_refuses_no_matching(self):
        paper = stable_paper(self.market, self.match)
        for match in ((1, 0, 0), (1, 0, 0, 0), (1, 0, 0, None, None), (1, 0, 0, 3), (-1, 0, 0, None), (1, 0, 0, 2)):
            with self.assertRaises(BadMatch):
                check_stable(self.market, match, paper)

    def test_no_paper_shows_what_is_not_stable(self):
        for market in some_markets(25, 62, askers=3, rooms=2):
            for match in all_matches(market.size(), market.seats):
                due = [pair for pair in market.pairs() if match[pair[0]] != pair[1]]
                taken = 0
                for words in range(2 ** len(due)):
                    paper = [(*pair, "full" if words >> at & 1 else "has") for at, pair in enumerate(due)]
                    try:
                        taken += check_stable(market, match, paper)
                    except BadPaper:
                        pass
                self.assertEqual(taken > 0, is_stable(market, match))


class BestPapers(unittest.TestCase):

    def test_each_refusal_with_the_holders_by_then(self):
        market = Market(((0, 1), (2, 0), (1, 0), (0, 3)), ((3, 2, 1, 0), (), (1, 0), (3,)), (2, 0, 0, 1))
        self.assertEqual(best_paper(market), (
            (1, 2, ()), (2, 1, ()), (0, 0, (1, 2)), (0, 1, ()), (1, 0, (2, 3)),
        ))

    def test_holders_of_a_room_that_does_not_list_the_asker(self):
        market = Market(((0,), (0,), (0,)), ((2, 0),), (2,))
        self.assertEqual(best_paper(market), ((1, 0, (0,)),))

    def test_no_rows(self):
        self.assertEqual(best_paper(Market((), (), ())), ())
        self.assertEqual(best_paper(Market(((0,),), ((0,),), (1,))), ())

    def test_the_refusals_in_their_order(self):
        for market in some_markets(60, 63) + full_markets(20, 64):
            paper = best_paper(market)
            self.assertEqual(tuple((asker, room) for asker, room, _ in paper), refusals(market))
            asking, rows = Asking(market), []
            while any(asking.wants(asker) for asker in range(market.size())):
                step = asking.ask(min(asker for asker in range(market.size()) if asking.wants(asker)))
                if step[2] is not None:
                    inside = tuple(one for one, room in enumerate(asking.held) if room == step[1])
                    rows.append((step[2], step[1], inside))
            self.assertEqual(paper, tuple(rows))

    def test_the_best_paper_is_taken_for_just_what_is_no_worse(self):
        for market in some_markets(40, 65, askers=3, rooms=3) + full_markets(20, 66, 3):
            best = ask_all(market)
            paper = best_paper(market)
            for match in all_matches(market.size(), market.seats):
                # One who has what it doesn't list was still refused by all rooms that it wants more.
                if all(best[asker] is None or not wish.better(best[asker], match[asker])
                       for asker, wish in enumerate(market.askers)):
                    self.assertIs(check_best(market, match, paper), True)
                else:
                    with self.assertRaises(BadPaper):
                        check_best(market, match, paper)

    def test_rows_may_be_lists(self):
        market, match, paper = asked(((0,), (0,)), ((1, 0),), (1,))
        self.assertIs(check_best(market, list(match), [[asker, room, list(ones)] for asker, room, ones in paper]), True)

    def test_refuses_rows_left_out(self):
        for market in some_markets(60, 67):
            paper = best_paper(market)
            for at in range(len(paper)):
                with self.assertRaises(BadPaper):
                    check_best(market, ask_all(market), paper[:at] + paper[at + 1:])

    def test_refuses_rows_that_come_too_early(self):
        # Asker 0 holds room 1 by right only when room 0 has refused it.
        market, match, paper = asked(((0, 1), (0,), (1, 0)), ((1, 0, 2), (0, 2)), (1, 1))
        self.assertEqual(paper, ((0, 0, (1,)), (2, 1, (0,)), (2, 0, (1,))))
        self.assertIs(check_best(market, match, (paper[0], paper[2], paper[1])), True)
        for wrong in ((paper[1], paper[0], paper[2]), (paper[2], paper[1], paper[0])):
            with self.assertRaises(BadPaper):
                check_best(market, match, wrong)

    def test_a_row_told_twice_stays_by_right(self):
        market, match, paper = asked(((0,), (0,)), ((1, 0),), (1,))
        self.assertIs(check_best(market, match, paper + paper), True)

    def test_refuses_numbers_that_are_not_there(self):
        market, match, paper = asked(((0, 1), (0,), (1, 0)), ((1, 0, 2), (0,)), (1, 1))
        self.assertIs(check_best(market, match, paper), True)
        for row in ((3, 0, (1,)), (-1, 0, (1,)), (0, 2, (1,)), (0, -1, (1,)), (2, 0, (3,)), (2, 0, (-2,)),
                    (2, 1, (0, 7)), (2, 1, (-1,)), (1, -1, ()), (1, 2, ())):
            with self.assertRaises(BadPaper):
                check_best(market, match, paper + (row,))

    def test_refuses_a_room_that_is_not_full(self):
        market, match, paper = asked(((0,), (0,), (0,)), ((0, 1, 2),), (2,))
        self.assertEqual(paper, ((2, 0, (0, 1)),))
        self.assertIs(check_best(market, match, ((2, 0, (1, 0)),)), True)
        for holders in ((), (0,), (0, 0), (1, 1), (0, 1, 0), (0, 1, 1)):
            with self.assertRaises(BadPaper):
                check_best(market, match, ((2, 0, holders),))

    def test_refuses_holders_that_are_worse_or_are_the_refused(self):
        market = Market(((0,), (0,)), ((1, 0),), (1,))
        for row in ((1, 0, (0,)), (1, 0, (1,)), (0, 0, (0,))):
            with self.assertRaises(BadPaper):
                check_best(market, (None, None), ((0, 0, (1,)), row))

    def test_refuses_holders_that_do_not_like_the_room(self):
        # Asker 1 doesn't list room 0, nor any that could refuse it; room 1 doesn't list asker 2.
        market = Market(((0, 1), ()), ((1, 0), (0, 1)), (1, 1))
        with self.assertRaises(BadPaper):
            check_best(market, (1, None), ((0, 0, (1,)),))
        market = Market(((0, 1), (1,), (0, 1)), ((1, 2, 0), (0, 1)), (1, 1))
        with self.assertRaises(BadPaper):
            check_best(market, (1, None, 0), ((0, 0, (1,)), (1, 1, (0,))))
        with self.assertRaises(BadPaper):
            check_best(market, (0, None, None), ((2, 0, (1,)), (1, 1, (2,))))

    def test_a_room_without_seats_refuses_by_right(self):
        market = Market(((0,),), ((0,),), (0,))
        self.assertIs(check_best(market, (None,), ((0, 0, ()),)), True)
        with self.assertRaises(BadPaper):
            check_best(market, (None,), ())

    def test_a_room_that_does_not_list_the_asker_refuses_by_right(self):
        market = Market(((0,), (0,)), ((1,),), (1,))
        for holders in ((), (1,), (0,), (0, 1)):
            self.assertIs(check_best(market, (None, 0), ((0, 0, holders),)), True)

    def test_refuses_a_matching_of_another_length(self):
        market, match, paper = asked(((0,), (0,)), ((1, 0),), (1,))
        for wrong in (match[:1], match + (None,)):
            with self.assertRaises(BadPaper):
                check_best(market, wrong, paper)

    def test_no_refusals_show_less_than_the_best(self):
        # Any rows at all: what is taken says that no stable matching gives better, and that is so.
        chance = random.Random(68)
        for market in full_markets(60, 69, 3):
            best = by_place(market, stable_ones(market), min)
            rows = [(asker, room, (one,)) for asker in range(3) for room in range(3) for one in range(3)]
            for _ in range(40):
                paper = chance.sample(rows, chance.randint(0, 12))
                match = tuple(chance.choice((None, 0, 1, 2)) for _ in range(3))
                try:
                    check_best(market, match, paper)
                except BadPaper:
                    continue
                self.assertFalse(any(wish.better(best[asker], match[asker])
                                     for asker, wish in enumerate(market.askers)))

    def test_holds_by_right(self):
        market = Market(((0, 1), (1, 0), (1,)), ((1, 0, 2), (0, 1, 2)), (1, 1))
        self.assertIs(holds_by_right(market, {}, 0, 0, 2), True)
        self.assertIs(holds_by_right(market, {}, 0, 0, 1), False)
        self.assertIs(holds_by_right(market, {}, 0, 1, 1), False)
        self.assertIs(holds_by_right(market, {(0, 0): True}, 0, 1, 1), True)
        self.assertIs(holds_by_right(market, [(0, 0)], 0, 1, 1), True)
        self.assertIs(holds_by_right(market, {(1, 0): True}, 0, 1, 1), False)
        self.assertIs(holds_by_right(market, {}, 2, 0, 1), False)
        self.assertIs(holds_by_right(market, {}, 0, 0, 0), False)
        idle = Market(((), (0,)), ((0, 1),), (1,))
        self.assertIs(holds_by_right(idle, {}, 0, 0, 1), False)


class BothPapers(unittest.TestCase):

    def test_both_papers_of_just_the_best_stable_one(self):
        for market in some_markets(50, 70, askers=3, rooms=3) + full_markets(20, 71, 3):
            for match in all_matches(market.size(), market.seats):
                if match == ask_all(market):
                    papers = both_papers(market, match)
                    self.assertEqual(papers, (stable_paper(market, match), best_paper(market)))
                    self.assertIs(check_both(market, match, papers), True)
                else:
                    with self.assertRaises(BadPaper):
                        both_papers(market, match)

    def test_check_both_refuses_either(self):
        market = Market(((1, 0), (0, 1)), ((0, 1), (1, 0)), (1, 1))
        papers = both_papers(market, (1, 0))
        self.assertEqual(papers, (((0, 0, "has"), (1, 1, "has")), ()))
        with self.assertRaises(BadPaper):
            check_both(market, (0, 1), (stable_paper(market, (0, 1)), papers[1]))
        with self.assertRaises(BadPaper):
            check_both(market, (1, 0), (papers[0][:1], papers[1]))
        with self.assertRaises(BadPaper):
            check_both(market, (1, None), papers)
        with self.assertRaises(BadMatch):
            check_both(market, (1, 1), papers)

    def test_the_rooms_best_has_no_best_paper(self):
        market = Market(((1, 0), (0, 1)), ((0, 1), (1, 0)), (1, 1))
        self.assertEqual(offer_all(market), (0, 1))
        with self.assertRaises(BadPaper):
            both_papers(market, (0, 1))

    def test_refused_by(self):
        market = Market(((2, 1, 0), (2,), (1, 2)), ((0,), (2, 0), (1, 0)), (1, 1, 1))
        self.assertEqual(refused_by(market, 0), (2, 1))
        self.assertEqual(refused_by(market, 1), ())
        self.assertEqual(refused_by(market, 2), ())
        self.assertEqual(refused_by(Market(((0,),), ((),), (1,)), 0), (0,))

    def test_reach(self):
        for market in some_markets(60, 72):
            best = by_place(market, stable_ones(market), min)
            for asker in range(market.size()):
                self.assertEqual(reach(market, asker), best[asker])


if __name__ == "__main__":
    unittest.main()
