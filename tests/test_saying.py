"""[3] and what [1] tells of it: walk and said."""

import copy
import unittest

import plain
from saylore.errors import BadWord, Unsaid
from saylore.saying import said, walk

BOOK = (
    "abc",
    (
        ("#", "ab", "", "AB"),  # 0: only at the word's begin
        ("", "a", "#", "E"),  # 1: only at its end
        ("bc", "a", "bc", "I"),  # 2: within
        ("", "a", "", "A"),  # 3
        ("", "bb", "#", "PP"),  # 4: two letters at the end
        ("#c", "b", "", ""),  # 5
        ("ab", "b", "#a", "B"),  # 6
        ("", "cc", "a", "KSA"),  # 7
        ("", "c", "", "C"),  # 8
        ("", "c", "", "D"),  # 9: never, 8 is ahead of it
    ),
    (("aa", "Q"), ("ab", "AB"), ("bc", ""), ("bcb", "R")),
)


class Walk(unittest.TestCase):
    def test_the_word_of_no_letter(self):
        self.assertEqual(walk(BOOK, ""), [])
        self.assertEqual(said(BOOK, ""), "")
        self.assertEqual(walk(("ab", (), ()), ""), [])
        self.assertEqual(said(("ab", (), ()), ""), "")

    def test_the_first_rule_that_fits_is_used(self):
        self.assertEqual(walk(BOOK, "c"), [(0, 8)])
        self.assertEqual(walk(BOOK, "a"), [(0, 1)])
        self.assertEqual(walk(BOOK, "ac"), [(0, 3), (1, 8)])
        self.assertEqual(walk(BOOK, "cab"), [(0, 8), (1, 2), (2, 6)])

    def test_it_goes_on_behind_own(self):
        self.assertEqual(walk(BOOK, "aba"), [(0, 0), (2, 1)])
        self.assertEqual(walk(BOOK, "abbb"), [(0, 0), (2, 4)])
        self.assertEqual(walk(BOOK, "abccab"), [(0, 0), (2, 7), (4, 2), (5, 6)])

    def test_two_letters_at_the_end(self):
        self.assertEqual(walk(BOOK, "ab"), [(0, 0)])
        self.assertEqual(walk(BOOK, "bb"), [(0, 4)])
        self.assertEqual(walk(BOOK, "cc"), [(0, 8), (1, 8)])
        rules = (("", "ab", "#", "X"),)
        self.assertEqual(walk(("ab", rules, ()), "ab"), [(0, 0)])
        for word in ("a", "aba", "abab"):
            with self.assertRaises(Unsaid) as caught:
                walk(("ab", rules, ()), word)
            self.assertEqual(caught.exception.place, 0)

    def test_the_edges_stand_ahead_and_behind(self):
        rules = (("#", "a", "#", "X"), ("#", "a", "", "Y"), ("", "a", "#", "Z"), ("", "a", "", "W"))
        book = ("ab", rules, ())
        self.assertEqual(walk(book, "a"), [(0, 0)])
        self.assertEqual(walk(book, "aa"), [(0, 1), (1, 2)])
        self.assertEqual(walk(book, "aaa"), [(0, 1), (1, 3), (2, 2)])

    def test_one_of_several_signs_is_enough(self):
        book = ("ab", (("#b", "a", "#b", "X"), ("", "b", "", "")), ())
        for word in ("a", "ab", "ba", "bab"):
            self.assertIn("X", said(book, word))
        with self.assertRaises(Unsaid) as caught:
            walk(book, "aa")
        self.assertEqual(caught.exception.place, 0)

    def test_unsaid_tells_the_first_place(self):
        book = ("ab", (("", "a", "", "X"), ("a", "b", "a", "Y")), ())
        for word, place in [("b", 0), ("bb", 0), ("ab", 1), ("abb", 1), ("abab", 3), ("ababb", 3), ("aaaabbb", 4)]:
            for ask in (walk, said):
                with self.assertRaises(Unsaid) as caught:
                    ask(book, word)
                self.assertEqual(caught.exception.place, place)

    def test_against_the_slow_way(self):
        for number in range(60):
            book = plain.some_book(number, ("ab", "abc", "abcd")[number % 3], whole=number % 2 == 0, exceptions=5)
            for word in plain.words(book[0], 5):
                steps, stuck = plain.walked(book[1], word)
                if stuck is None:
                    self.assertEqual(walk(book, word), steps)
                else:
                    with self.assertRaises(Unsaid) as caught:
                        walk(book, word)
                    self.assertEqual(caught.exception.place, stuck)
                if plain.said(book, word) is None:
                    self.assertRaises(Unsaid, said, book, word)
                else:
                    self.assertEqual(said(book, word), plain.said(book, word))


class Said(unittest.TestCase):
    def test_all_sounds_in_turn(self):
        self.assertEqual(said(BOOK, "abccab"), "ABKSAIB")
        self.assertEqual(said(BOOK, "cac"), "CIC")
        self.assertEqual(said(BOOK, "b"), "")

    def test_an_exception_that_rules_say_otherwise(self):
        self.assertEqual(walk(BOOK, "aa"), [(0, 3), (1, 1)])
        self.assertEqual(said(BOOK, "aa"), "Q")
        self.assertEqual(said(BOOK, "bc"), "")
        self.assertEqual(said(BOOK, "aaa"), "AAE")

    def test_an_exception_that_rules_do_not_say(self):
        book = ("ab", (("", "a", "", "X"),), (("ab", "Y"), ("b", "")))
        self.assertEqual(said(book, "ab"), "Y")
        self.assertEqual(said(book, "b"), "")
        self.assertEqual(said(book, "a"), "X")
        for word, place in [("ab", 1), ("b", 0)]:
            with self.assertRaises(Unsaid) as caught:
                walk(book, word)
            self.assertEqual(caught.exception.place, place)
        with self.assertRaises(Unsaid) as caught:
            said(book, "aab")
        self.assertEqual(caught.exception.place, 2)


class Words(unittest.TestCase):
    def test_twelve_letters_and_thirteen(self):
        self.assertEqual(said(BOOK, "c" * 12), "C" * 12)
        self.assertEqual(walk(BOOK, "c" * 12), [(place, 8) for place in range(12)])
        for ask in (walk, said):
            self.assertRaises(BadWord, ask, BOOK, "c" * 13)
            self.assertRaises(BadWord, ask, BOOK, "c" * 1000)

    def test_what_is_no_word(self):
        for word in ["d", "abd", "#", "a#", "#a", "A", " ", "a ", "a\n", "\u00e4", "\ud800", 0, 7, -1, 10 ** 5000, 1.5]:
            for ask in (walk, said):
                self.assertRaises(BadWord, ask, BOOK, word)
        for word in [True, False, None, [], ["a"], (), ("a",), ("a", "b"), b"a"]:
            for ask in (walk, said):
                self.assertRaises(BadWord, ask, BOOK, word)

    def test_a_word_that_can_not_be_is_refused_ahead_of_unsaid(self):
        book = ("ab", (), ())
        self.assertRaises(BadWord, walk, book, "bc")
        self.assertRaises(BadWord, said, book, "bc")


class Promises(unittest.TestCase):
    def test_what_is_told_may_be_changed(self):
        told = walk(BOOK, "abcca")
        kept = list(told)
        told.clear()
        told.append("x")
        self.assertEqual(walk(BOOK, "abcca"), kept)

    def test_the_kinds_of_what_is_told(self):
        told = walk(BOOK, "ab")
        self.assertIs(type(told), list)
        self.assertIs(type(told[0]), tuple)
        self.assertIs(type(said(BOOK, "ab")), str)

    def test_nothing_handed_in_is_changed(self):
        rules = [list(BOOK[1]), None]
        before = copy.deepcopy(rules)
        for bad in (rules, tuple(rules), ("abc", rules, ())):
            with self.assertRaises(ValueError):
                said(bad, "a")
        self.assertEqual(rules, before)


if __name__ == "__main__":
    unittest.main()
