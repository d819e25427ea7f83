"""Point 28, sessions: lines said and answered, refusals by their words, reasons why not."""

import random
import unittest
from unittest import mock

from fairs import ASKERS, ROOMS, line_of, market_of, some_deed, some_deeds, state
from pairmart.books import Book, done_again
from pairmart.errors import (
    BadDeed, BadMatch, BadPaper, BadRoom, BadSize, BadText, BadWish, MarketFault, NoSuch,
)
from pairmart.papers import both_papers
from pairmart.sessions import Session, all_said, faults, is_fault, refuse, rows_of, told_change
from pairmart.texts import told, told_match
from small import stable_ones

LINES = ("open red 1 bob ann", "open blue 1 ann bob", "come ann red blue", "come bob red blue", "come cat blue")
# Two stable matchings: the askers' best, and the rooms' best.
TWO = ("open red 1 bob ann", "open blue 1 ann bob", "come ann red blue", "come bob blue red")


def session_of(lines):
    """A session to which lines are said."""
    session = Session()
    for line in lines:
        session.say(line)
    return session


class Saying(unittest.TestCase):

    def test_deeds_answer_what_changed(self):
        session = Session()
        for line, answer in (
            ("open red 1 bob ann", ()),
            ("come ann red blue", ("ann - red",)),
            ("come bob red", ("ann red -", "bob - red")),
            ("open blue 2 ann", ("ann - blue",)),
            ("wish bob blue", ("ann blue red", "bob red -")),
            ("change red 0", ("ann red blue",)),
            ("come cat", ()),
            ("  leave   ann ", ("ann blue -",)),
            ("shut blue", ()),
        ):
            self.assertEqual(session.say(line), answer, line)
            self.assertEqual(session.book.many, len(session.book.text.split("\n")) - 1)

    def test_show_and_tell(self):
        session = session_of(LINES)
        self.assertEqual(session.say("show"), ("ann blue", "bob red", "cat -"))
        self.assertEqual(session.say("tell"), ("room blue 1: ann bob", "room red 1: bob ann", "asker ann: red blue",
                                               "asker bob: red blue", "asker cat: blue"))
        self.assertEqual((Session().say("show"), Session().say("tell")), ((), ()))

    def test_count(self):
        self.assertEqual(session_of(LINES).say("count"), ("1",))
        self.assertEqual(session_of(TWO).say("count"), ("2",))
        self.assertEqual(Session().say("count"), ("1",))

    def test_paper(self):
        session = session_of(LINES)
        # ann and red, bob and blue aren't together; red and blue refuse ann and cat.
        self.assertEqual(session.say("paper"), ("2 2",))
        self.assertEqual(session.paper(), (2, 2))
        self.assertEqual(Session().say("paper"), ("0 0",))
        self.assertEqual(Session().paper(), (0, 0))

    def test_lie(self):
        session = session_of(LINES)
        for asker in ("ann", "bob", "cat"):
            self.assertEqual(session.say(f"lie {asker}"), ("none helps",))
            self.assertEqual(session.lie(asker), ("none helps",))

    def test_a_lie_that_helps_is_told(self):
        # It can't help where the best matching stands, so another answer is put in.
        with mock.patch("pairmart.sessions.best_lie", lambda market, asker: ((0,), 0) if asker == 1 else None):
            session = session_of(LINES)
            self.assertEqual([session.say(f"lie {asker}") for asker in ("ann", "bob", "cat")],
                             [("none helps",), ("one helps",), ("none helps",)])

    def test_papers_are_looked_through(self):
        with mock.patch("pairmart.sessions.check_both", side_effect=BadPaper("it is wrong")):
            self.assertEqual(session_of(LINES).say("paper"), ("error: paper",))

    def test_why(self):
        session = session_of(TWO + ("open oak 1 bob", "come cat red oak blue", "wish bob blue oak red",
                                    "change red 1 bob ann cat"))
        for asker, room, answer in (
            ("ann", "red", "has it"),
            ("bob", "blue", "has it"),
            ("ann", "blue", "has better"),
            ("bob", "oak", "has better"),
            ("cat", "red", "never: no stable matching"),
            ("cat", "oak", "not both list it"),
            ("cat", "blue", "not both list it"),
            ("ann", "oak", "not both list it"),
        ):
            self.assertEqual(session.say(f"why {asker} {room}"), (answer,), (asker, room))
            self.assertEqual(session.why(asker, room), answer)

    def test_each_answer_of_small_fairs(self):
        chance = random.Random(2801)
        words = []
        for _ in range(40):
            session = session_of([line_of(deed) for deed in some_deeds(chance, 14)])
            fair = session.book.fair
            market = market_of(fair)
            can = stable_ones(market)
            askers, rooms = fair.names()
            self.assertEqual(session.say("count"), (str(len(can)),))
            papers = both_papers(fair.as_market(), fair.by_numbers())
            self.assertEqual(session.say("paper"), (f"{len(papers[0])} {len(papers[1])}",))
            self.assertEqual(session.say("show"), tuple(told_match(fair).split("\n")[:-1]))
            self.assertEqual(session.say("tell"), tuple(told(fair).split("\n")[:-1]))
            for one, asker in enumerate(askers):
                self.assertEqual(session.say(f"lie {asker}"), ("none helps",))
                for other, room in enumerate(rooms):
                    if fair.held[asker] == room:
                        word = "has it"
                    elif not market.likes(one, other):
                        word = "not both list it"
                    elif any(match[one] == other for match in can):
                        word = "has better"
                    else:
                        order = fair.lists[asker]
                        held = fair.held[asker]
                        ahead = held is not None and order.index(held) < order.index(room)
                        word = "has better" if ahead else "never: no stable matching"
                    self.assertEqual(session.say(f"why {asker} {room}"), (word,))
                    words.append(word)
        self.assertEqual(len(set(words)), 4)

    def test_what_is_asked_changes_nothing(self):
        session = session_of(LINES)
        before = (state(session.book.fair), session.book.text, session.book.many)
        for line in ("show", "tell", "count", "paper", "lie ann", "why ann red", "lie zoe", "why ann oak", "what"):
            session.say(line)
            self.assertEqual((state(session.book.fair), session.book.text, session.book.many), before)


class Refusing(unittest.TestCase):

    def test_each_refusal(self):
        for line, word, error in (
            ("", "text", BadText), ("    ", "text", BadText), ("what", "text", BadText), ("ann", "text", BadText),
            ("show it", "text", BadText), ("tell me", "text", BadText), ("count all", "text", BadText),
            ("paper 2", "text", BadText), ("lie", "text", BadText), ("lie ann bob", "text", BadText),
            ("why", "text", BadText), ("why ann", "text", BadText), ("why ann red blue", "text", BadText),
            ("come", "text", BadText), ("come Ann", "text", BadText), ("come zoe: red", "text", BadText),
            ("come 2", "text", BadText), ("open oak", "text", BadText), ("open oak ann", "text", BadText),
            ("open oak 1234567 ann", "text", BadText), ("open oak -1 ann", "text", BadText),
            ("leave ann now", "text", BadText), ("Show", "text", BadText), ("show\n", "text", BadText),
            ("come zoe red red", "wish", BadWish), ("wish ann red red", "wish", BadWish),
            ("open oak 1 ann ann", "wish", BadWish), ("change red 1 ann ann", "wish", BadWish),
            ("come ann", "deed", BadDeed), ("open red 1", "deed", BadDeed),
            ("leave zoe", "no such", NoSuch), ("wish zoe red", "no such", NoSuch), ("shut oak", "no such", NoSuch),
            ("change oak 1", "no such", NoSuch), ("lie zoe", "no such", NoSuch), ("lie 2", "no such", NoSuch),
            ("why zoe red", "no such", NoSuch), ("why ann oak", "no such", NoSuch), ("why red ann", "no such", NoSuch),
        ):
            session = session_of(LINES)
            before = (state(session.book.fair), session.book.text)
            self.assertEqual(session.say(line), (f"error: {word}",), line)
            with self.assertRaises(error) as caught:
                session.do(line)
            self.assertIs(type(caught.exception), error)
            self.assertEqual((state(session.book.fair), session.book.text), before)

    def test_size(self):
        session = session_of(["come ann red"] + [f"open r{number} 1 ann" for number in range(6)])
        self.assertEqual(session.say("lie ann"), ("error: size",))
        self.assertEqual(session.say("lie zoe"), ("error: no such",))
        session.say("shut r0")
        self.assertEqual(session.say("lie ann"), ("none helps",))
        # Nine pairs of two, each with two stable matchings of its own, have 512 in all; eight have 256.
        lines = []
        for number in range(9):
            one, other = f"a{number}", f"b{number}"
            lines += [f"open r{number} 1 {other} {one}", f"open s{number} 1 {one} {other}",
                      f"come {one} r{number} s{number}", f"come {other} s{number} r{number}"]
        self.assertEqual(session_of(lines).say("count"), ("error: size",))
        self.assertEqual(session_of(lines[:32]).say("count"), ("256",))

    def test_paper_and_room(self):
        # By lines alone neither comes about: the fair is spoilt by hand.
        session = session_of(TWO)
        session.book.fair.held.update({"ann": "blue", "bob": "red"})
        self.assertEqual(session.say("paper"), ("error: paper",))
        with self.assertRaises(BadPaper):
            session.paper()
        session.book.fair.held.update({"ann": "red", "bob": "red"})
        self.assertEqual(session.say("paper"), ("error: paper",))
        with self.assertRaises((BadPaper, BadMatch)):
            session.paper()
        session = session_of(TWO)
        session.book.fair.seats["red"] = -1
        self.assertEqual([session.say(line) for line in ("paper", "count", "why ann red", "lie ann")],
                         [("error: room",)] * 4)

    def test_each_line_gets_an_answer(self):
        chance = random.Random(2802)
        seen = {}
        for _ in range(40):
            session = Session()
            for _ in range(25):
                line = chance.choice((line_of(some_deed(chance)), "show", "tell", "count", "paper", "what",
                                      f"lie {chance.choice(ASKERS)}",
                                      f"why {chance.choice(ASKERS)} {chance.choice(ROOMS)}"))
                if chance.random() < 0.1:
                    line += " " + line.split(" ")[-1]
                text = session.book.text
                answer = session.say(line)
                self.assertIsInstance(answer, tuple)
                self.assertTrue(all(isinstance(row, str) for row in answer))
                if is_fault(answer):
                    seen[answer] = True
                    self.assertEqual(session.book.text, text)
        self.assertEqual(sorted(seen), [(f"error: {word}",) for word in ("deed", "no such", "text", "wish")])

    def test_number(self):
        session = Session()
        self.assertEqual([session.number(("ann", "bob"), word) for word in ("ann", "bob")], [0, 1])
        for words in (("ann", "bob"), ()):
            with self.assertRaises(NoSuch):
                session.number(words, "zoe")

    def test_refuse(self):
        with self.assertRaises(MarketFault) as caught:
            refuse("what")
        self.assertIs(type(caught.exception), MarketFault)


class Rows(unittest.TestCase):

    def test_told_change(self):
        self.assertEqual(told_change(("ann", "red", "blue")), "ann red blue")
        self.assertEqual(told_change(("ann", None, "blue")), "ann - blue")
        self.assertEqual(told_change(("ann", "red", None)), "ann red -")

    def test_rows_of(self):
        self.assertEqual(rows_of("a b\nc\n"), ("a b", "c"))
        self.assertEqual(rows_of("a\nb"), ("a", "b"))
        self.assertEqual(rows_of("a\n\nb\n"), ("a", "", "b"))
        self.assertEqual(rows_of(""), ())

    def test_all_said(self):
        answers = all_said(LINES[:3] + ("what", "show", "come ann", "shut oak"))
        self.assertEqual(answers, ((), (), ("ann - red",), ("error: text",), ("ann red",), ("error: deed",),
                                   ("error: no such",)))
        self.assertEqual(faults(answers), (3, 5, 6))
        self.assertEqual((all_said(()), faults(())), ((), ()))
        # Each time a new session.
        self.assertEqual(all_said(["come ann"]), ((),))
        self.assertEqual(all_said(["come ann"]), ((),))

    def test_is_fault(self):
        for word in ("text", "wish", "room", "deed", "no such", "size", "paper"):
            self.assertTrue(is_fault((f"error: {word}",)))
            self.assertTrue(is_fault(f"error: {word}"))
        for answer in ((), ("ann red",), ("error red", "zoe -"), ("room error 1: ann",), ("has it",), ("2 3",)):
            self.assertFalse(is_fault(answer))
        # An asker may be called error.
        self.assertEqual(faults(all_said(["come error", "open red 1 error", "wish error red", "show", "tell"])), ())


class Books(unittest.TestCase):

    def test_a_session_of_a_book(self):
        book = Book()
        book.do("open red 1 ann")
        session = Session(book)
        self.assertEqual(session.say("come ann red"), ("ann - red",))
        self.assertIs(session.book, book)
        self.assertEqual(book.many, 2)
        self.assertEqual(Session(done_again(book.text)).say("show"), ("ann red",))
        self.assertEqual(Session(book).say("show"), ("ann red",))

    def test_each_session_has_its_own_book(self):
        one, other = Session(), Session()
        one.say("come ann")
        self.assertEqual((one.book.many, other.book.many), (1, 0))


if __name__ == "__main__":
    unittest.main()
