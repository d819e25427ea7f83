"""Points 1 and 29: what holds over the whole program, whatever is done to a fair and in whatever order."""

import random
import unittest
from itertools import combinations, permutations, product

from fairs import ASKERS, ROOMS, best_of, done, fair_of, line_of, market_of, some_deed, some_deeds, state
from pairmart.books import Book, done_again, stages, undone
from pairmart.days import Fair
from pairmart.errors import BadMatch, BadPaper, MarketFault
from pairmart.papers import best_paper, both_papers, check_best, check_both, check_stable, stable_paper
from pairmart.sessions import Session
from pairmart.texts import read, told
from small import all_matches, lists_below, place, stable_ones


def lists_of(words):
    """All strict lists of some words, shorter ones first."""
    return [tuple(words[one] for one in order) for order in lists_below(len(words))]


def put_back(fair, shown):
    """Do deeds in no good order until a fair is as another one was."""
    lists, orders = dict(shown[0]), {row[0]: row[1:] for row in shown[1]}
    for room in fair.names()[1]:
        if room not in orders:
            fair.shut_room(room)
    for asker in fair.names()[0]:
        if asker not in lists:
            fair.leave(asker)
    for asker, order in reversed(lists.items()):
        (fair.wish if asker in fair.lists else fair.come)(asker, order)
    for room, (order, count) in reversed(orders.items()):
        (fair.change_room if room in fair.orders else fair.open_room)(room, order, count)


class Orders(unittest.TestCase):

    def test_all_orders_of_few_deeds(self):
        deeds = [("open", "red", ("bob", "ann"), 1), ("open", "blue", ("ann", "cat", "bob"), 1),
                 ("come", "ann", ("red", "blue"), None), ("come", "bob", ("blue", "red"), None),
                 ("come", "cat", ("blue",), None)]
        found = {fair_of(order).match() for order in permutations(deeds)}
        self.assertEqual(found, {best_of(fair_of(deeds))})

    def test_all_orders_of_deeds_to_a_standing_fair(self):
        chance = random.Random(101)
        for _ in range(25):
            # Each deed touches another one, so that all of them are due in any order.
            deeds = [("open", room, tuple(chance.sample(ASKERS, 4)), 1) for room in ROOMS[:2]]
            deeds += [("come", asker, tuple(chance.sample(ROOMS, 3)), None) for asker in ASKERS[:3]]
            later = [("shut", "blue", (), None), ("leave", "ann", (), None),
                     ("wish", "bob", tuple(chance.sample(ROOMS, 2)), None),
                     ("open", "red", tuple(chance.sample(ASKERS, 3)), chance.choice((1, 2))),
                     ("change", "oak", tuple(chance.sample(ASKERS, 4)), chance.choice((0, 1, 2)))]
            found = set()
            for order in permutations(later):
                fair = fair_of(deeds)
                for deed in order:
                    done(fair, deed)
                found.add((fair.match(), fair.shown()))
            self.assertEqual(len(found), 1)
            self.assertEqual(found.pop()[0], best_of(fair))

    def test_there_and_back_again(self):
        chance = random.Random(102)
        for _ in range(40):
            fair = fair_of(some_deeds(chance, 12))
            shown, match = fair.shown(), fair.match()
            for _ in range(12):
                try:
                    done(fair, some_deed(chance))
                except MarketFault:
                    pass
                self.assertEqual(fair.match(), best_of(fair))
            put_back(fair, shown)
            self.assertEqual((fair.shown(), fair.match()), (shown, match))

    def test_text_book_and_session_come_to_the_same(self):
        chance = random.Random(103)
        for _ in range(30):
            deeds = some_deeds(chance, 14)
            fair, book, session = Fair(), Book(), Session()
            for deed in deeds:
                answer = done(fair, deed)
                self.assertEqual(book.do(line_of(deed)), answer)
                rows = tuple(" ".join("-" if word is None else word for word in change) for change in answer)
                self.assertEqual(session.say(line_of(deed)), rows)
            matches = [fair.match(), book.fair.match(), session.book.fair.match(), read(told(fair)).match(),
                       done_again(book.text).fair.match(), stages(book.text)[-1], undone(book, 0).fair.match()]
            self.assertEqual(matches, [best_of(fair)] * 7)
            self.assertEqual(stages(book.text), tuple(undone(book, many).fair.match() for many in range(14, -1, -1)))


class NoLists(unittest.TestCase):

    def small_fairs(self, count, seed, askers=ASKERS[:3]):
        """Fairs on which many deeds were done, with most of the askers and rooms there."""
        chance = random.Random(seed)
        found = []
        while len(found) < count:
            fair = fair_of(some_deeds(chance, 18, askers))
            if len(fair.lists) > 1 and len(fair.orders) > 1:
                found.append(fair)
        return found

    def test_no_list_helps_an_asker(self):
        told_in_all = 0
        for fair in self.small_fairs(30, 104, ASKERS):
            true, match = fair.shown(), dict(fair.match())
            for asker, order in true[0]:
                for lie in lists_of(ROOMS):
                    fair.wish(asker, lie)
                    self.assertGreaterEqual(place(order, fair.held[asker]), place(order, match[asker]))
                    told_in_all += 1
                fair.wish(asker, order)
                self.assertEqual((fair.shown(), dict(fair.match())), (true, match))
        self.assertGreater(told_in_all, 1000)

    def test_no_two_lists_help_both(self):
        one_helped = 0
        for fair in self.small_fairs(12, 105):
            true, match = dict(fair.shown()[0]), dict(fair.match())
            for pair in combinations(true, 2):
                for lies in product(lists_of(fair.names()[1]), repeat=2):
                    for asker, lie in zip(pair, lies):
                        fair.wish(asker, lie)
                    better = [place(true[asker], fair.held[asker]) < place(true[asker], match[asker]) for asker in pair]
                    self.assertNotEqual(better, [True, True])
                    one_helped += any(better)
                for asker in pair:
                    fair.wish(asker, true[asker])
                self.assertEqual(dict(fair.match()), match)
        # One of two may be helped by the other one's list, so that it is the two of them who can't.
        self.assertGreater(one_helped, 0)


class Papers(unittest.TestCase):

    def some_fairs(self, count, seed):
        chance = random.Random(seed)
        return chance, [fair_of(some_deeds(chance, 14, ASKERS[:3])) for _ in range(count)]

    def test_what_stands_after_each_deed_has_papers_that_are_taken(self):
        chance = random.Random(106)
        for _ in range(25):
            fair = Fair()
            for deed in some_deeds(chance, 15):
                done(fair, deed)
                market, match = fair.as_market(), fair.by_numbers()
                self.assertIs(check_both(market, match, both_papers(market, match)), True)

    def test_no_other_matching_has_papers(self):
        _, fairs = self.some_fairs(40, 107)
        for fair in fairs:
            market, best = fair.as_market(), fair.by_numbers()
            papers = both_papers(market, best)
            for match in all_matches(market.size(), market.seats):
                if match != best:
                    with self.assertRaises(BadPaper):
                        both_papers(market, match)
                    with self.assertRaises(BadPaper):
                        check_both(market, match, papers)

    def test_no_words_show_what_is_not_stable(self):
        _, fairs = self.some_fairs(25, 108)
        for fair in fairs:
            market = fair.as_market()
            can = stable_ones(market)
            for match in all_matches(market.size(), market.seats):
                due = [pair for pair in market.pairs() if match[pair[0]] != pair[1]]
                taken = 0
                for words in product(("has", "full"), repeat=len(due)) if len(due) < 6 else ():
                    paper = tuple((asker, room, word) for (asker, room), word in zip(due, words))
                    try:
                        taken += check_stable(market, match, paper)
                    except BadPaper:
                        pass
                self.assertEqual(taken > 0, match in can and len(due) < 6)

    def test_no_rows_show_what_is_not_the_best(self):
        chance, fairs = self.some_fairs(40, 109)
        taken = 0
        for fair in fairs:
            market, best = fair.as_market(), fair.by_numbers()
            can = [match for match in stable_ones(market)]
            rows = list(best_paper(market))
            for asker, room in market.pairs():
                rows += [(asker, room, lot) for lot in combinations(range(market.size()), market.seats[room])]
            for _ in range(40):
                paper = tuple(chance.sample(rows, chance.randint(0, len(rows)))) if chance.random() < 0.7 else (
                    best_paper(market)[:chance.randint(0, len(rows))] + tuple(chance.sample(rows, min(1, len(rows)))))
                for match in can:
                    try:
                        self.assertTrue(check_best(market, match, paper))
                    except BadPaper:
                        continue
                    taken += 1
                    self.assertEqual(match, best)
        self.assertGreater(taken, 200)

    def test_what_is_no_matching_has_no_papers(self):
        fair = fair_of([("open", "red", ("ann", "bob"), 1), ("come", "ann", ("red",), None), ("come", "bob", ("red",), None)])
        market, papers = fair.as_market(), both_papers(fair.as_market(), fair.by_numbers())
        for match in ((0, 0), (0,), (0, None, None), (1, None)):
            with self.assertRaises((BadMatch, BadPaper)):
                check_both(market, match, papers)
        self.assertEqual(stable_paper(market, (0, None)), papers[0])


class Errors(unittest.TestCase):

    def test_what_is_refused_changes_nothing_and_is_a_market_fault(self):
        chance = random.Random(110)
        refused = {}
        for _ in range(60):
            book = Book()
            for _ in range(20):
                deed = some_deed(chance)
                line = line_of(deed) + chance.choice(("", "", "", " " + deed[1], " Red", " 2", "  ", " zoe zoe"))
                before = (state(book.fair), book.text, book.many)
                try:
                    book.do(line)
                except MarketFault as fault:
                    refused[type(fault).__name__] = True
                    self.assertIsInstance(fault, ValueError)
                    self.assertEqual((state(book.fair), book.text, book.many), before)
                self.assertEqual(book.fair.match(), best_of(book.fair))
        self.assertEqual(sorted(refused), ["BadDeed", "BadText", "BadWish", "NoSuch"])

    def test_what_is_handed_in_is_not_changed(self):
        rooms, askers = ["red", "blue"], ["ann", "bob"]
        fair = Fair()
        fair.come("ann", rooms)
        fair.open_room("red", askers, 1)
        rooms.append("oak")
        askers.clear()
        self.assertEqual(fair.shown(), ((("ann", ("red", "blue")),), (("red", ("ann", "bob"), 1),)))
        fair.wish("ann", rooms)
        fair.change_room("red", askers, 1)
        self.assertEqual((rooms, askers), (["red", "blue", "oak"], []))

    def test_what_is_told_is_tuples(self):
        fair = fair_of([("open", "red", ["ann"], 1), ("come", "ann", ["red"], None), ("come", "bob", [], None)])
        for told_rows in (fair.match(), fair.shown(), fair.names(), fair.by_numbers(), fair.told({}), fair.wish("ann", []),
                          stages("")):
            waiting = [told_rows]
            while waiting:
                one = waiting.pop()
                self.assertNotIsInstance(one, list)
                waiting.extend(one if isinstance(one, tuple) else ())
        for rows in (fair.those_in("red"), fair.who_waits(), fair.part_of(("ann",), ())):
            self.assertIsInstance(rows, list)

    def test_the_market_of_a_fair_is_of_those_who_are_there(self):
        chance = random.Random(111)
        for _ in range(40):
            fair = fair_of(some_deeds(chance, 14))
            self.assertEqual(fair.as_market().shown(), market_of(fair).shown())


if __name__ == "__main__":
    unittest.main()
