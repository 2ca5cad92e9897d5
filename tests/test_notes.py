"""[12]: books as texts."""

import unittest

import plain
from saylore.errors import BadBook, BadText
from saylore.notes import read, written

BOOK = (
    "abc",
    (("#a", "bc", "abc", "XYZ"), ("", "a", "", ""), ("", "b", "#", "B"), ("c", "cc", "", "")),
    (("a", ""), ("abc", "ABE"), ("b", "A")),
)
TEXT = """letters abc
rule #a bc abc XYZ
rule - a - -
rule - b # B
rule c cc - -
word a -
word abc ABE
word b A"""

FULL = ("wxyz", (("#wxyz", "zw", "#wxyz", "ABC"),) * 12, tuple(("wwwwww" + end, "Q" * 36) for end in (
    "ww", "wx", "wy", "wz", "xw", "xx", "xy", "xz"
)))


class Written(unittest.TestCase):
    def test_rows(self):
        self.assertEqual(written(BOOK), TEXT)
        self.assertIs(type(written(BOOK)), str)

    def test_no_rules_and_no_exceptions(self):
        self.assertEqual(written(("az", (), ())), "letters az")
        self.assertEqual(written(("ab", (("", "a", "", ""),), ())), "letters ab\nrule - a - -")
        self.assertEqual(written(("ab", (), (("b", ""),))), "letters ab\nword b -")

    def test_what_can_be_no_book(self):
        for book, part, number in [
            (None, -1, 0),
            (("b", (), ()), 0, 0),
            (("ab", (None,), ()), 1, 0),
            (("ab", (), (("a", ""), ("a", ""))), 2, 1),
        ]:
            with self.assertRaises(BadBook) as caught:
                written(book)
            self.assertEqual((caught.exception.part, caught.exception.number), (part, number))


class Both(unittest.TestCase):
    def same(self, book):
        told = read(written(book))
        self.assertEqual(told, book)
        self.assertIs(type(told), tuple)
        self.assertEqual([type(part) for part in told], [str, tuple, tuple])
        self.assertEqual([type(thing) for part in told[1:] for thing in part], [tuple] * (len(book[1]) + len(book[2])))
        self.assertEqual(written(told), written(book))

    def test_what_is_written_is_read_to_the_same(self):
        self.assertEqual(read(TEXT), BOOK)
        for book in [BOOK, FULL, ("ab", (), ()), ("ab", (("", "a", "", ""),), ()), ("ab", (), (("b", ""),))]:
            self.same(book)

    def test_many_books(self):
        for number in range(90):
            self.same(plain.some_book(number, ("ab", "abc", "abcd")[number % 3], exceptions=number % 9))

    def test_a_book_at_its_bounds(self):
        text = written(FULL)
        self.assertEqual(len(text.split("\n")), 21)
        self.assertEqual(text.split("\n")[12], "rule #wxyz zw #wxyz ABC")


class BadRows(unittest.TestCase):
    def refused(self, text, row):
        with self.subTest(text=text):
            with self.assertRaises(BadText) as caught:
                read(text)
            self.assertEqual(caught.exception.row, row)

    def with_row(self, number, row):
        """BOOK's text with another row at a number."""
        rows = TEXT.split("\n")
        return "\n".join(rows[:number] + [row] + rows[number + 1:])

    def test_no_rows_and_empty_ones(self):
        for text in ("", "\n", "\n\n", "\n" + TEXT, " ", "  "):
            self.refused(text, 0)
        self.refused("letters ab\n", 1)
        self.refused(TEXT + "\n", 8)
        self.refused(TEXT + "\n\n", 8)
        self.refused("letters ab\n\nrule - a - -", 1)
        self.refused("letters ab\n ", 1)

    def test_an_empty_word(self):
        for row, text in enumerate(TEXT.split("\n")):
            for bad in [" " + text, text + " ", "  " + text, text + "  ", text.replace(" ", "  ", 1)]:
                self.refused(self.with_row(row, bad), row)
        # An empty word in place of a word, so that there are as many as there must be.
        self.refused("letters ", 0)
        self.refused(" ab", 0)
        self.refused("letters ab\nrule  a - -", 1)
        self.refused("letters ab\nrule - a - ", 1)
        self.refused("letters ab\nword  X", 1)
        self.refused("letters ab\nword a ", 1)

    def test_another_number_of_words(self):
        for text in ("letters", "letters a b", "letters ab -", "letters a b c d"):
            self.refused(text, 0)
        for text in ("rule", "rule a", "rule - a -", "rule - a - - -", "rule - a", "rule - a - X Y Z"):
            self.refused("letters ab\n" + text, 1)
        for text in ("word", "word a", "word a X Y", "word a - - -"):
            self.refused("letters ab\n" + text, 1)

    def test_none_of_these_words_ahead(self):
        for word in ("Letters", "letter", "letters:", "-", "#", "ab", "rules", "words"):
            self.refused(word + " ab", 0)
        for word in ("Rule", "rules", "rul", "-", "#rule", "rule:"):
            self.refused(f"letters ab\n{word} - a - -", 1)
        for word in ("Word", "words", "-", "exception", "#"):
            self.refused(f"letters ab\n{word} a X", 1)

    def test_another_first_row(self):
        self.refused("rule - a - -", 0)
        self.refused("rule - a - -\nletters ab", 0)
        self.refused("word a X\nletters ab", 0)

    def test_letters_twice(self):
        self.refused("letters ab\nletters ab", 1)
        self.refused("letters ab\nrule - a - -\nletters ab", 2)
        self.refused("letters ab\nrule - a - -\nword a X\nletters ab", 3)

    def test_a_rule_behind_a_word(self):
        self.refused("letters ab\nword a X\nrule - a - -", 2)
        self.refused("letters ab\nrule - a - -\nword a X\nword b X\nrule - a - -\nword b Y", 4)

    def test_the_first_of_several(self):
        self.refused("letters ab\nrule - a\nletters ab\n", 1)
        self.refused("letters ab\nletters ab\nrule - a\n", 1)
        self.refused("rule - a - -\nrule\n", 0)
        self.refused("letters ab\nword a X\nrule - a - -\nword", 2)
        self.refused("letters ab\nword a X\nword\nrule - a - -", 2)

    def test_rows_are_refused_ahead_of_the_book(self):
        self.refused("letters ba\nrule x", 1)
        self.refused("letters a\nrule - - - -\nword - x\n", 3)
        self.refused("\n".join(["letters ab"] + ["rule - a - -"] * 13 + ["letters ab"]), 14)

    def test_what_is_no_text(self):
        for text in [None, 7, True, False, [], [TEXT], (), (TEXT,), {}, b"letters ab", 1.5]:
            self.refused(text, 0)


class BadBooks(unittest.TestCase):
    def refused(self, rows, part, number):
        with self.subTest(rows=rows):
            with self.assertRaises(BadBook) as caught:
                read("\n".join(rows))
            self.assertEqual((caught.exception.part, caught.exception.number), (part, number))

    def test_letters(self):
        for letters in ("a", "-", "ba", "aa", "abcde", "AB", "a-", "a#", "rule"):
            self.refused(["letters " + letters, "rule - x - -", "word - x"], 0, 0)

    def test_rules(self):
        for rule in ("- - - -", "- d - X", "- abc - X", "a# a - X", "- a ba X", "- a - WXYZ", "- a - x", "-- a - X"):
            self.refused(["letters abc", "rule - a - X", "rule " + rule, "rule - - - -", "word a x"], 1, 1)
        self.refused(["letters ab"] + ["rule - a - -"] * 13, 1, 12)
        self.refused(["letters ab"] + ["rule - a - -"] * 12 + ["rule - - - -"], 1, 12)

    def test_exceptions(self):
        for word in ("- X", "c X", "aaaaaaaaa X", "b x", "b X-", "b " + "X" * 37, "a X", "a Y", "# X", "-- X"):
            self.refused(["letters ab", "rule - a - X", "word a X", "word " + word, "word a X"], 2, 1)
        self.refused(["letters ab"] + ["word " + "a" * size + " X" for size in range(1, 9)] + ["word b X"], 2, 8)


if __name__ == "__main__":
    unittest.main()
