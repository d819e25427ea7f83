"""Point 27, books: deeds, their figures, rows written, books done again, torn ends, deeds undone."""

import random
import unittest

from fairs import done, line_of, some_deed, some_deeds, state
from pairmart.books import (
    BASE, WIDE, Book, Deed, deeds_of, done_again, figure_of, read_deed, row_deed, stages, undone,
)
from pairmart.days import Fair
from pairmart.errors import BadDeed, BadRoom, BadStore, BadText, BadWish, MarketFault, NoSuch

LINES = ("open red 1 ann bob", "come bob red", "come ann red", "change red 2 ann bob", "wish bob red blue", "leave ann",
         "shut red", "come ann")


def book_of(lines):
    """A book to which lines are done."""
    book = Book()
    for line in lines:
        book.do(line)
    return book


def written(bodies):
    """The text of rows with their figures."""
    return "".join(f"{body} {figure_of(body)}\n" for body in bodies)


class Figures(unittest.TestCase):

    def test_small_ones(self):
        self.assertEqual((BASE, WIDE), (9973, 2000003))
        self.assertEqual(figure_of(""), 0)
        self.assertEqual(figure_of("a"), 97 * 9973 + 97)
        self.assertEqual(figure_of("ab"), (97 + 98) * 9973 + 97 + 2 * 98)
        self.assertEqual(figure_of("ba"), (97 + 98) * 9973 + 98 + 2 * 97)

    def test_long_rows(self):
        for text in ("z" * 400, "ann bob " * 2000, "z" * 16394, "z" * 16395, "come ann " + "blue " * 9000):
            one = sum(map(ord, text)) % 2000003
            other = sum(place * ord(sign) for place, sign in enumerate(text, 1)) % 9973
            self.assertEqual(figure_of(text), one * 9973 + other)
        self.assertGreater(sum(map(ord, "z" * 16395)), WIDE)

    def test_signs_that_change_places_are_seen(self):
        self.assertNotEqual(figure_of("0 come ann red blue"), figure_of("0 come ann blue red"))
        self.assertNotEqual(figure_of("0 leave ann"), figure_of("1 leave ann"))


class Deeds(unittest.TestCase):

    def test_fields_and_shown(self):
        deed = Deed("open", "red", ["ann", "bob"], 2)
        self.assertEqual((deed.kind, deed.who, deed.words, deed.count), ("open", "red", ("ann", "bob"), 2))
        self.assertEqual(deed.shown(), ("open", "red", ("ann", "bob"), 2))
        self.assertEqual(Deed("leave", "ann").shown(), ("leave", "ann", (), None))

    def test_line(self):
        self.assertEqual(Deed("come", "ann", ("red", "blue")).line(), "come ann red blue")
        self.assertEqual(Deed("come", "ann").line(), "come ann")
        self.assertEqual(Deed("leave", "ann").line(), "leave ann")
        self.assertEqual(Deed("open", "red", (), 0).line(), "open red 0")
        self.assertEqual(Deed("change", "red", ("ann",), 12).line(), "change red 12 ann")

    def test_read_deed(self):
        for line in LINES:
            self.assertEqual(read_deed(line).line(), line)
        self.assertEqual(read_deed("come ann red blue").shown(), ("come", "ann", ("red", "blue"), None))
        self.assertEqual(read_deed("  open   red 007   ann ").shown(), ("open", "red", ("ann",), 7))
        self.assertEqual(read_deed("wish leave open").shown(), ("wish", "leave", ("open",), None))
        self.assertEqual(read_deed("shut red").shown(), ("shut", "red", (), None))
        self.assertEqual(read_deed("open red 999999").count, 999999)

    def test_what_is_no_deed(self):
        for line in ("", "   ", "come", "leave", "open", "ann", "go ann", "Come ann", "come 2", "leave 2", "open 2 2",
                     "come ann 2", "wish ann red 2", "leave ann red", "leave ann 2", "shut red 2", "shut red ann",
                     "open red", "open red ann", "change red", "change red ann 2", "open red 1234567", "open red -1",
                     "open red 2 2", "open red 2 3 ann", "come ann: red", "come ann\tred", "come ann red\n", "come ann Red",
                     "show", "why ann red", "asker ann red"):
            with self.assertRaises(BadText, msg=line):
                read_deed(line)

    def test_do(self):
        fair = Fair()
        self.assertEqual(Deed("open", "red", ("bob", "ann"), 1).do(fair), ())
        self.assertEqual(Deed("come", "ann", ("red",)).do(fair), (("ann", None, "red"),))
        self.assertEqual(Deed("come", "bob").do(fair), ())
        self.assertEqual(Deed("wish", "bob", ("red",)).do(fair), (("ann", "red", None), ("bob", None, "red")))
        self.assertEqual(Deed("change", "red", ("bob", "ann"), 2).do(fair), (("ann", None, "red"),))
        self.assertEqual(Deed("leave", "bob").do(fair), (("bob", "red", None),))
        self.assertEqual(Deed("shut", "red").do(fair), (("ann", "red", None),))

    def test_do_refuses_as_fairs_do(self):
        fair = Fair()
        fair.come("ann", ["red"])
        fair.open_room("red", ["ann"], 1)
        before = state(fair)
        for error, deed in (
            (BadDeed, Deed("come", "ann")), (BadWish, Deed("come", "bob", ("red", "red"))),
            (NoSuch, Deed("leave", "bob")), (NoSuch, Deed("wish", "bob")), (BadWish, Deed("wish", "ann", ("a", "a"))),
            (BadDeed, Deed("open", "red", (), 1)), (BadWish, Deed("open", "blue", ("a", "a"), 1)),
            (BadRoom, Deed("open", "blue", (), -1)), (NoSuch, Deed("shut", "blue")),
            (NoSuch, Deed("change", "blue", (), 1)), (BadWish, Deed("change", "red", ("a", "a"), 1)),
            (BadRoom, Deed("change", "red", (), -1)),
        ):
            with self.assertRaises(error) as caught:
                deed.do(fair)
            self.assertIs(type(caught.exception), error)
            self.assertEqual(state(fair), before)


class Books(unittest.TestCase):

    def test_rows_written(self):
        book = Book()
        self.assertEqual((book.text, book.many, book.fair.match()), ("", 0, ()))
        self.assertEqual(book.do("  open red  01 ann"), ())
        self.assertEqual(book.do("come ann red"), (("ann", None, "red"),))
        self.assertEqual(book.text, written(("0 open red 1 ann", "1 come ann red")))
        self.assertEqual(book.many, 2)

    def test_a_refusal_writes_nothing(self):
        book = book_of(LINES[:4])
        kept = (book.text, book.many, state(book.fair))
        for error, line in ((BadText, "go ann"), (BadText, ""), (BadDeed, "come ann"), (NoSuch, "leave zoe"),
                            (BadWish, "wish ann red red"), (NoSuch, "shut blue"), (BadDeed, "open red 1"),
                            (BadText, "open blue 1234567")):
            with self.assertRaises(error) as caught:
                book.do(line)
            self.assertIs(type(caught.exception), error)
            self.assertEqual((book.text, book.many, state(book.fair)), kept)
        book.do("leave ann")
        self.assertEqual(book.text, written(f"{number} {line}" for number, line in enumerate(LINES[:4] + ("leave ann",))))

    def test_a_book_stands_as_a_fair_to_which_its_deeds_are_done(self):
        chance = random.Random(2701)
        for _ in range(30):
            book, fair = Book(), Fair()
            for _ in range(15):
                deed = some_deed(chance)
                try:
                    answer = done(fair, deed)
                except MarketFault as fault:
                    with self.assertRaises(type(fault)):
                        book.do(line_of(deed))
                else:
                    self.assertEqual(book.do(line_of(deed)), answer)
                self.assertEqual(book.fair.match(), fair.match())
            self.assertEqual(done_again(book.text).fair.shown(), fair.shown())

    def test_row_deed(self):
        row = written(("3 open red 2 ann",))[:-1]
        self.assertEqual(row_deed(row, 3).shown(), ("open", "red", ("ann",), 2))
        for number in (2, 4, 0, 33):
            with self.assertRaises(BadStore):
                row_deed(row, number)
        for wrong in (row + "0", row[:-1], row + " ", " " + row, row.replace("ann", "amn"), row.replace("2", "1"), "",
                      "3", "3 open red 2 ann", "3 open red 2 ann x", row.replace("3", "03", 1), row + "\n"):
            with self.assertRaises(BadStore, msg=wrong):
                row_deed(wrong, 3)

    def test_row_deed_with_a_right_figure_but_no_deed(self):
        for body in ("3 go ann", "3", "3 ", "3 come", "3 come 2", "3 open red ann", "3 leave ann red", "3 come Ann",
                     "3 come ann: red", "3 open red 1234567"):
            with self.assertRaises(BadStore, msg=body):
                row_deed(f"{body} {figure_of(body)}", 3)

    def test_figures_stand_as_they_are_told(self):
        body = "0 leave ann"
        for figure in (f"0{figure_of(body)}", f"+{figure_of(body)}", f"{figure_of(body)}.0", str(figure_of(body) + 1)):
            with self.assertRaises(BadStore):
                row_deed(f"{body} {figure}", 0)

    def test_deeds_of(self):
        book = book_of(LINES)
        self.assertEqual(tuple(deed.line() for deed in deeds_of(book.text)), LINES)
        self.assertEqual(deeds_of(""), ())
        self.assertEqual(deeds_of("torn"), ())

    def test_a_last_row_without_its_end_is_left_out(self):
        text = book_of(LINES).text
        ends = [place + 1 for place, sign in enumerate(text) if sign == "\n"]
        for length in range(len(text) + 1):
            whole = len([end for end in ends if end <= length])
            self.assertEqual(tuple(deed.line() for deed in deeds_of(text[:length])), LINES[:whole])
        self.assertEqual(done_again(text[:-1]).text, text[:ends[-2]])
        self.assertEqual(done_again(text + "8 come zoe 12").text, text)

    def test_rows_that_are_not_whole(self):
        text = book_of(LINES).text
        rows = text.split("\n")[:-1]
        for wrong in (rows[1:], rows[:2] + rows[3:], rows[:1] + rows, rows[:2] + [""] + rows[2:], [""] + rows,
                      rows[:2] + [rows[3], rows[2]] + rows[4:], rows + [rows[-1]]):
            for ask in (deeds_of, done_again, stages):
                with self.assertRaises(BadStore):
                    ask("".join(row + "\n" for row in wrong))
        with self.assertRaises(BadStore):
            deeds_of("\n")
        with self.assertRaises(BadStore):
            deeds_of(text + "\n")

    def test_each_sign_that_is_changed_is_seen(self):
        text = book_of(LINES[:3]).text
        for place, sign in enumerate(text):
            other = "b" if sign == "a" else "a"
            if place < len(text) - 1:
                for ask in (deeds_of, done_again, stages):
                    with self.assertRaises(BadStore, msg=place):
                        ask(text[:place] + other + text[place + 1:])

    def test_deeds_that_can_not_be_done(self):
        for bodies in (("0 leave ann",), ("0 come ann", "1 come ann"), ("0 come ann red red",), ("0 shut red",),
                       ("0 open red 1", "1 open red 1"), ("0 wish ann",), ("0 change red 1",)):
            text = written(bodies)
            self.assertEqual(len(deeds_of(text)), len(bodies))
            for ask in (done_again, stages):
                with self.assertRaises(BadStore) as caught:
                    ask(text)
                self.assertIs(type(caught.exception), BadStore)

    def test_done_again(self):
        chance = random.Random(2702)
        for _ in range(30):
            book = book_of([line_of(deed) for deed in some_deeds(chance, 12)])
            again = done_again(book.text)
            self.assertEqual((again.text, again.many, state(again.fair)), (book.text, book.many, state(book.fair)))
        self.assertEqual((done_again("").text, done_again("").many), ("", 0))

    def test_stages(self):
        book, found = Book(), [()]
        for line in LINES:
            book.do(line)
            found.append(book.fair.match())
        self.assertEqual(stages(book.text), tuple(found))
        self.assertEqual(stages(book.text[:-1]), tuple(found[:-1]))
        self.assertEqual(stages(""), ((),))

    def test_undone(self):
        book = book_of(LINES)
        kept = (book.text, book.many, state(book.fair))
        for many in range(len(LINES) + 1):
            found = undone(book, many)
            should = book_of(LINES[:len(LINES) - many])
            self.assertEqual((found.text, found.many, found.fair.match(), found.fair.shown()),
                             (should.text, should.many, should.fair.match(), should.fair.shown()))
            self.assertEqual((book.text, book.many, state(book.fair)), kept)
        for many in (len(LINES) + 1, 100, -1):
            with self.assertRaises(BadDeed):
                undone(book, many)
        self.assertEqual(undone(Book(), 0).text, "")
        with self.assertRaises(BadDeed):
            undone(Book(), 1)

    def test_an_undone_book_goes_on(self):
        book = undone(book_of(LINES), 5)
        self.assertEqual(book.do("leave bob"), ())
        self.assertEqual(done_again(book.text).text, book.text)
        self.assertEqual(book.many, 4)


if __name__ == "__main__":
    unittest.main()
