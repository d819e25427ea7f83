"""Point 26, texts: words, counts, rows read and told, lists with ties, matchings told."""

import random
import unittest

from fairs import fair_of, some_deeds, state
from pairmart.days import Fair
from pairmart.errors import BadText
from pairmart.texts import (
    FIGURES, INNER, MOST_FIGURES, SMALL, all_words, is_count, is_word, read, read_groups, read_row, told, told_groups,
    told_match, words_of,
)

TEXT = "room blue 1: ann bob\nroom red 2: bob\nasker ann: red blue\nasker bob: red blue\nasker cat:\n"


class Words(unittest.TestCase):

    def test_signs(self):
        self.assertEqual(SMALL, "abcdefghijklmnopqrstuvwxyz")
        self.assertEqual(INNER, SMALL + FIGURES + "_")
        self.assertEqual((FIGURES, MOST_FIGURES), ("0123456789", 6))

    def test_is_word(self):
        for word in ("a", "ann", "r2", "a_b", "a_", "z9_9", "asker", "room", "a" * 300):
            self.assertTrue(is_word(word), word)
        for word in ("", "2r", "_a", "Ann", "aNn", "a-b", "a b", " a", "a ", "a:", "a.", "a\n", "\t", "7", "\u00e4", "a\u00e4",
                     "(", "\u00b2", "a\u0663"):
            self.assertFalse(is_word(word), word)

    def test_is_count(self):
        for word in ("0", "7", "12", "007", "999999", "000000"):
            self.assertTrue(is_count(word), word)
        for word in ("", "1234567", "0000000", "-1", "+1", "1 ", "1_0", "a", "1a", "1.5", "\u0663", "\u00b2"):
            self.assertFalse(is_count(word), word)

    def test_words_of(self):
        self.assertEqual(words_of("open red 2 ann"), ["open", "red", "2", "ann"])
        self.assertEqual(words_of("   a    b  "), ["a", "b"])
        self.assertEqual(words_of(""), [])
        self.assertEqual(words_of("    "), [])
        for line in ("a\tb", "\t", "a, b", "a b:", "A", "a -", "a\n", "1234567", "a 2b", "a\u00a0b", "(a)"):
            with self.assertRaises(BadText):
                words_of(line)

    def test_all_words(self):
        self.assertEqual(tuple(all_words(("a", "b2"))), ("a", "b2"))
        self.assertEqual(tuple(all_words(())), ())
        for words in (("a", "2"), ("7",), ("a", "B"), ("",)):
            with self.assertRaises(BadText):
                all_words(words)


class Reading(unittest.TestCase):

    def test_read(self):
        fair = read(TEXT)
        self.assertEqual(fair.shown(), (
            (("ann", ("red", "blue")), ("bob", ("red", "blue")), ("cat", ())),
            (("blue", ("ann", "bob"), 1), ("red", ("bob",), 2)),
        ))
        self.assertEqual(fair.match(), (("ann", "blue"), ("bob", "red"), ("cat", None)))

    def test_rows_may_stand_in_any_order(self):
        rows = TEXT.split("\n")[:-1]
        for seed in range(10):
            random.Random(seed).shuffle(rows)
            fair = read("\n".join(rows))
            self.assertEqual((told(fair), fair.match()), (TEXT, read(TEXT).match()))

    def test_blanks_and_bare_rows(self):
        text = "\n   \n  asker   ann  :  red    blue \n\nroom red   007:ann\n\n\n asker bob:\n     "
        self.assertEqual(told(read(text)), "room red 7: ann\nasker ann: red blue\nasker bob:\n")
        for text in ("", "\n", "   ", " \n\n  \n"):
            self.assertEqual(read(text).shown(), ((), ()))

    def test_words_that_begin_rows_may_be_names(self):
        text = "room asker 1: room\nasker room: asker\n"
        self.assertEqual(told(read(text)), text)
        self.assertEqual(told_match(read(text)), "room asker\n")

    def test_rows_that_are_none(self):
        for row in ("asker ann red", "asker ann", "asker", "asker:", "asker : red", ": red", ":", "ann: red", "asker 2: red",
                    "asker ann bob: red", "asker ann 2: red", "room red: ann", "room red ann: bob", "room 2 2: ann",
                    "room red 2 2: ann", "room red 2", "room: ann", "room red 1234567: ann", "room red -1: ann",
                    "room red +1: ann", "room red 2:: ann", "room red 2: ann: bob", "asker ann: red 2", "asker Ann: red",
                    "asker ann: Red", "asker ann:\tred", "\t", "Asker ann: red", "asker ann: red, blue", "asker ann; red",
                    "asker ann: -", "come ann: red", "rooms red 2: ann", "asker ann: (red blue)", "room 2: ann"):
            fair = Fair()
            before = state(fair)
            with self.assertRaises(BadText, msg=row):
                read_row(fair, row)
            self.assertEqual(state(fair), before)
            with self.assertRaises(BadText, msg=row):
                read(f"asker zoe: red\n{row}\n")

    def test_rows_that_can_not_be_done(self):
        for row in ("asker ann: blue", "room red 1: bob", "asker dan: red red", "room oak 1: ann bob ann"):
            with self.assertRaises(BadText, msg=row):
                read(TEXT + row)
            fair = read(TEXT)
            before = state(fair)
            with self.assertRaises(BadText):
                read_row(fair, row)
            self.assertEqual(state(fair), before)

    def test_read_row(self):
        fair = Fair()
        read_row(fair, "room red 1: ann")
        read_row(fair, "asker ann: red")
        self.assertEqual(fair.match(), (("ann", "red"),))
        for row in ("", "   "):
            with self.assertRaises(BadText):
                read_row(fair, row)

    def test_counts_of_six_figures_and_seven(self):
        self.assertEqual(read("room red 999999: ann").seats, {"red": 999999})
        with self.assertRaises(BadText):
            read("room red 1000000: ann")


class Telling(unittest.TestCase):

    def test_told(self):
        self.assertEqual(told(read(TEXT)), TEXT)
        self.assertEqual(told(Fair()), "")
        fair = Fair()
        fair.come("ann", [])
        fair.open_room("red", [], 0)
        self.assertEqual(told(fair), "room red 0:\nasker ann:\n")

    def test_told_match(self):
        self.assertEqual(told_match(read(TEXT)), "ann blue\nbob red\ncat -\n")
        self.assertEqual(told_match(Fair()), "")

    def test_what_is_told_is_read_again(self):
        chance = random.Random(2601)
        for _ in range(60):
            fair = fair_of(some_deeds(chance, 14))
            again = read(told(fair))
            self.assertEqual((again.shown(), again.match()), (fair.shown(), fair.match()))
            self.assertEqual(told(again), told(fair))


class Groups(unittest.TestCase):

    def test_read_groups(self):
        self.assertEqual(read_groups("ann (bob cat) dan"), (("ann",), ("bob", "cat"), ("dan",)))
        self.assertEqual(read_groups("(ann bob)(cat dan eve)"), (("ann", "bob"), ("cat", "dan", "eve")))
        self.assertEqual(read_groups("  ann   (  bob   cat  )"), (("ann",), ("bob", "cat")))
        self.assertEqual(read_groups("ann(bob cat)dan"), (("ann",), ("bob", "cat"), ("dan",)))
        self.assertEqual(read_groups("(ann)"), (("ann",),))
        for text in ("", "   "):
            self.assertEqual(read_groups(text), ())

    def test_brackets_that_can_not_be(self):
        for text in ("(ann", "ann (bob", "(", "ann)", ")", "()", "(  )", "ann () bob", "((ann bob))", "(ann (bob cat))",
                     "(ann bob) cat)", ")(", "(ann bob))", "((", "(ann bob) (", "(ann (bob cat)", "((ann bob)"):
            with self.assertRaises(BadText, msg=text):
                read_groups(text)

    def test_words_that_can_not_be(self):
        for text in ("ann 2", "(ann 2)", "Ann", "(ann, bob)", "[ann bob]", "ann\tbob", "ann\nbob", "ann: bob", "7"):
            with self.assertRaises(BadText, msg=text):
                read_groups(text)

    def test_told_groups(self):
        self.assertEqual(told_groups((("ann",), ("bob", "cat"), ("dan",))), "ann (bob cat) dan")
        self.assertEqual(told_groups([["ann", "bob", "cat"]]), "(ann bob cat)")
        self.assertEqual(told_groups((("ann",),)), "ann")
        self.assertEqual(told_groups(()), "")

    def test_what_is_told_is_read_again(self):
        chance = random.Random(2602)
        for _ in range(60):
            words = chance.sample(["ann", "bob", "cat", "dan", "eve", "f_1"], chance.randint(0, 6))
            groups = []
            while words:
                size = chance.randint(1, len(words))
                groups.append(tuple(words[:size]))
                words = words[size:]
            self.assertEqual(read_groups(told_groups(groups)), tuple(groups))


if __name__ == "__main__":
    unittest.main()
