"""[6]: all words that are said so."""

import unittest

import plain
from saylore.back import LONG, writings
from saylore.errors import BadBook, BadCount, BadSounds
from saylore.saying import said

PLAIN_RULES = (("", "a", "", "X"), ("", "b", "", "Y"))
SILENT = ("ab", (("", "a", "", ""), ("", "b", "", "")), ())

BOOK = (
    "abc",
    (("", "cc", "a", "KS"), ("", "c", "a", "K"), ("", "c", "", "S"), ("", "a", "#", "E"), ("", "a", "", "A")),
    (("aa", "KE"), ("ab", "SE"), ("ca", "Q"), ("cccccccc", "SSSSSSSS")),
)

# Whatever else may be handed in where sounds or a number stands.
OTHERS = [True, False, None, [], ["X"], (), ("X",), {}, b"X", 1.5]


class Found(unittest.TestCase):
    def test_words_that_rules_say_so(self):
        book = ("ab", PLAIN_RULES, ())
        self.assertEqual(writings(book, "XYX"), ["aba"])
        self.assertEqual(writings(book, "Z"), [])
        self.assertEqual(writings(("ab", (("", "ab", "", "X"),) + PLAIN_RULES, ()), "XY"), ["abb"])

    def test_the_shorter_ones_first_then_as_texts_ascend(self):
        rules = (("", "a", "", "X"), ("", "b", "", "X"), ("", "ba", "b", ""), ("", "c", "", ""))
        book = ("abc", (rules[2],) + rules[:2] + rules[3:], ())
        self.assertEqual(
            writings(book, "X", long=3),
            ["a", "b", "ac", "bc", "ca", "cb", "acc", "bab", "bcc", "cac", "cbc", "cca", "ccb"],
        )

    def test_the_empty_saying(self):
        self.assertEqual(writings(("ab", PLAIN_RULES, ()), ""), [""])
        self.assertEqual(writings(("ab", (), ()), ""), [""])
        self.assertEqual(writings(SILENT, "", long=2), ["", "a", "b", "aa", "ab", "ba", "bb"])
        self.assertEqual(writings(SILENT, "X"), [])

    def test_the_word_of_no_letter_has_no_sounds(self):
        self.assertEqual(writings(("ab", PLAIN_RULES, ()), "", long=0), [""])
        self.assertEqual(writings(("ab", PLAIN_RULES, ()), "X", long=0), [])

    def test_the_whole_word_must_be_said(self):
        book = ("ab", (("", "a", "#b", "X"), ("a", "b", "b", ""), ("b", "b", "#", "")), ())
        self.assertEqual(writings(book, "X"), ["a", "abb"])

    def test_against_the_slow_way(self):
        for number in range(60):
            letters, longest = (("ab", 7), ("abc", 5), ("abcd", 4))[number % 3]
            book = plain.some_book(number, letters, plain=0.5, whole=number % 2 == 0, exceptions=number % 4 * 2)
            for told in ("", "X", "XY", "XX", "YXY", "Q"):
                with self.subTest(book=number, told=told):
                    self.assertEqual(writings(book, told, long=longest), plain.writings(book, told, longest))

    def test_seven_letters_of_four(self):
        book = ("abcd", tuple(("", letter, "", "X") for letter in "abcd"), ())
        told = writings(book, "X" * 7, long=7)
        self.assertEqual(len(told), 4 ** 7)
        self.assertEqual(told, sorted(told))


class Exceptions(unittest.TestCase):
    def test_exceptions_count(self):
        self.assertEqual(writings(BOOK, "KE"), ["aa"])
        self.assertEqual(writings(BOOK, "Q"), ["ca"])
        self.assertEqual(writings(BOOK, "S"), ["c"])

    def test_a_word_that_is_said_otherwise_by_rules(self):
        rules = BOOK[1]
        self.assertEqual(writings(("abc", rules, ()), "KE"), ["ca"])
        self.assertEqual(writings(("abc", rules, (("ca", "Q"),)), "KE"), [])
        self.assertEqual(writings(("abc", rules, (("ca", "KE"),)), "KE"), ["ca"])

    def test_a_word_that_no_rule_says(self):
        self.assertEqual(writings(BOOK, "SE"), ["ab"])
        self.assertEqual(writings(("ab", (), (("bbb", ""),)), ""), ["", "bbb"])

    def test_they_stand_among_the_others(self):
        pairs = (("ab", "X"), ("abb", "X"), ("ba", "X"))
        rules = (("", "a", "", "X"), ("", "b", "#", ""), ("a", "b", "a", ""))
        book = ("ab", rules, pairs)
        self.assertEqual(plain.writings(book, "X", 5), ["a", "ab", "ba", "abb"])
        self.assertEqual(writings(book, "X"), ["a", "ab", "ba", "abb"])

    def test_a_word_is_told_once(self):
        self.assertEqual(writings(("ab", PLAIN_RULES, (("ab", "XY"),)), "XY"), ["ab"])

    def test_words_beyond_long(self):
        self.assertEqual(writings(BOOK, "S" * 8, long=7), [])
        book = ("ab", PLAIN_RULES, (("aaaaaaa", "Q"), ("aaaaaaaa", "Q"), ("aaaaab", "Q")))
        self.assertEqual(writings(book, "Q"), [])
        self.assertEqual(writings(book, "Q", long=6), ["aaaaab"])
        self.assertEqual(writings(book, "Q", long=7), ["aaaaab", "aaaaaaa"])

    def test_many_sounds(self):
        self.assertEqual(writings(("ab", PLAIN_RULES, (("b", "Z" * 36),)), "Z" * 36), ["b"])


class Long(unittest.TestCase):
    def test_five_if_nothing_is_said(self):
        self.assertEqual(LONG, 5)
        self.assertEqual(writings(SILENT, ""), writings(SILENT, "", long=5))
        self.assertEqual(len(writings(SILENT, "")), 63)

    def test_0_to_7(self):
        for long in range(8):
            self.assertEqual(writings(SILENT, "", long=long), list(plain.words("ab", long)))

    def test_what_is_no_such_number(self):
        for long in OTHERS + [-1, 8, 9, 10 ** 5000, -10 ** 5000, "", "5", 5.0]:
            with self.subTest(long=str(long)[:9] if isinstance(long, (str, float)) else "other"):
                self.assertRaises(BadCount, writings, SILENT, "", long=long)


class Sounds(unittest.TestCase):
    def test_36_and_37(self):
        rules = (("", "a", "", "XXX"),)
        self.assertEqual(writings(("ab", rules, ()), "X" * 36), [])
        self.assertEqual(writings(("ab", rules, ()), "X" * 21, long=7), ["aaaaaaa"])
        self.assertRaises(BadSounds, writings, ("ab", rules, ()), "X" * 37)
        self.assertRaises(BadSounds, writings, ("ab", rules, ()), "X" * 1000)

    def test_what_are_no_sounds(self):
        for sounds in OTHERS + ["x", "Xy", "X ", " ", "#", "-", "1", "X\n", "@", "[", "\u00c4", 0, 7, -1]:
            with self.subTest(sounds=sounds):
                self.assertRaises(BadSounds, writings, SILENT, sounds)

    def test_what_is_handed_in_first_is_refused_first(self):
        for sounds in ("x", None, "X" * 37):
            self.assertRaises(BadSounds, writings, SILENT, sounds, long=8)
            self.assertRaises(BadBook, writings, ("ba", (), ()), sounds, long=8)


class Promises(unittest.TestCase):
    def test_what_is_told_may_be_changed(self):
        told = writings(BOOK, "SS")
        kept = list(told)
        self.assertEqual(kept, ["cc"])
        told.append("x")
        self.assertEqual(writings(BOOK, "SS"), kept)
        self.assertIs(type(told), list)

    def test_all_that_is_told_is_said_so(self):
        for sounds in ("SKS", "SSS", "AE", "KSE"):
            for word in writings(BOOK, sounds):
                self.assertEqual(said(BOOK, word), sounds)


if __name__ == "__main__":
    unittest.main()
