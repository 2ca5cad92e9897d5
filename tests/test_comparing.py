"""[7] and [8]: what holds of all words, against saying all words up to a length the slow way."""

import unittest

import plain
from saylore.comparing import free, idle, needless, parted, unsaid, use
from saylore.errors import BadBook, BadCount, OtherLetters

LONGEST = {"ab": 8, "abc": 6, "abcd": 5}


def some_books(many, *, exceptions=0):
    """Books that say all words, most words, and few words, each with two, three and four letters."""
    for number in range(many):
        letters = ("ab", "abc", "abcd")[number % 3]
        likely = (0.2, 0.5, 0.8)[number // 3 % 3]
        yield number, plain.some_book(
            number, letters, plain=likely, whole=number % 2 == 0, exceptions=exceptions and number % exceptions
        )


class Case(unittest.TestCase):
    def same_least(self, told, slow, longest):
        """A word that is told is the one that was found the slow way, or longer than those that were tried."""
        if slow is not None:
            self.assertEqual(told, slow)
        elif told is not None:
            self.assertGreater(len(told), longest)


class Use(Case):
    BOOK = (
        "ab",
        (("#", "a", "#", ""), ("b", "ab", "b", "X"), ("a", "a", "", "Y"), ("", "b", "", ""), ("", "a", "", "")),
        (("a", "Q"), ("aa", "Q"), ("b", "Q")),
    )

    def test_the_least_word(self):
        self.assertEqual([use(self.BOOK, number) for number in range(5)], ["a", "babb", "aa", "b", "aa"])

    def test_none(self):
        rules = (("", "a", "", ""), ("#", "a", "", ""), ("", "b", "b", ""), ("#", "b", "a", ""))
        self.assertEqual([use(("ab", rules, ()), number) for number in range(4)], ["a", None, None, "ba"])
        self.assertEqual(idle(("ab", rules, ())), [1, 2])

    def test_exceptions_do_not_count(self):
        rules = (("", "b", "", "X"),)
        book = ("ab", rules, (("a", "X"), ("b", "Y")))
        self.assertEqual(use(book, 0), "b")
        self.assertEqual(use(book, 0), use(("ab", rules, ()), 0))

    def test_the_shorter_word_is_less(self):
        book = ("ab", (("", "b", "#", ""), ("", "a", "", "")), ())
        self.assertEqual(use(book, 0), "b")
        self.assertEqual(use(("ab", (("", "ab", "", ""), ("", "b", "", ""), ("", "aa", "", "")), ()), 1), "b")

    def test_of_alike_ones_the_first_as_texts(self):
        book = ("abc", (("", "a", "bc", "X"), ("", "c", "", ""), ("", "b", "", "")), ())
        self.assertEqual(use(book, 0), "ab")

    def test_the_whole_word_must_be_said(self):
        book = ("ab", (("#", "a", "", ""), ("a", "a", "", ""), ("a", "b", "#", "")), ())
        self.assertEqual(use(book, 2), "ab")
        book = ("ab", (("", "a", "b", ""), ("a", "b", "b", ""), ("b", "b", "#", "")), ())
        self.assertEqual([use(book, number) for number in range(3)], ["abb", "abb", "abb"])

    def test_numbers_that_there_are_none_of(self):
        for number in [5, 6, 12, 10 ** 5000, -1, -5, -10 ** 5000, 0.0, 1.5]:
            self.assertRaises(BadCount, use, self.BOOK, number)
        for number in [True, False, "0", "", None, [], [0], (), (0,)]:
            self.assertRaises(BadCount, use, self.BOOK, number)
        for number in (0, 1, -1, False, None):
            self.assertRaises(BadCount, use, ("ab", (), ()), number)

    def test_a_word_of_many_letters(self):
        book = plain.chain()
        word = plain.chain_word()
        self.assertEqual(len(word), 24)
        self.assertEqual([use(book, number) for number in range(12)], [word] * 12)
        self.assertEqual(idle(book), [])

    def test_words_without_end_that_are_never_said(self):
        book = ("ab", (("", "a", "a", "X"), ("", "b", "b", "")), ())
        self.assertEqual([use(book, 0), use(book, 1)], [None, None])
        self.assertEqual(idle(book), [0, 1])

    def test_against_all_words(self):
        for number, book in some_books(90, exceptions=4):
            with self.subTest(book=number):
                longest = min(LONGEST[book[0]], 7)
                told = [use(book, at) for at in range(len(book[1]))]
                for at, word in enumerate(told):
                    self.same_least(word, plain.use(book, at, longest), longest)
                    if word is not None:
                        steps, stuck = plain.walked(book[1], word)
                        self.assertIsNone(stuck)
                        self.assertIn(at, [used for _, used in steps])
                self.assertEqual(idle(book), [at for at, word in enumerate(told) if word is None])


class Idle(Case):
    def test_no_rules(self):
        self.assertEqual(idle(("ab", (), ())), [])

    def test_rising_and_without_exceptions(self):
        rules = (("", "a", "", ""), ("b", "a", "", ""), ("", "b", "", ""), ("#", "ab", "", ""), ("a", "b", "b", ""))
        self.assertEqual(idle(("ab", rules, (("a", ""),))), [1, 3, 4])

    def test_what_is_told_may_be_changed(self):
        book = ("ab", (("", "a", "", ""), ("", "a", "", "")), ())
        idle(book).append(7)
        self.assertEqual(idle(book), [1])


class UnsaidWords(Case):
    def test_no_rules(self):
        self.assertEqual(unsaid(("bc", (), ())), "b")

    def test_none(self):
        self.assertIsNone(unsaid(("ab", (("", "a", "", ""), ("", "b", "", "")), ())))
        pieces = tuple((beside, own, "", "") for beside in ("#", "a", "b") for own in "ab")
        self.assertIsNone(unsaid(("ab", pieces, ())))
        self.assertEqual(unsaid(("ab", pieces[:-1], ())), "bb")

    def test_the_least_word(self):
        self.assertEqual(unsaid(("ab", (("", "a", "", ""), ("", "b", "#a", "")), ())), "bb")
        self.assertEqual(unsaid(("ab", (("", "a", "", ""), ("", "b", "a", "")), ())), "b")
        self.assertEqual(unsaid(("abc", (("", "c", "", ""), ("", "a", "", "")), ())), "b")

    def test_pairs_that_leave_one_letter_over(self):
        # The first two of three a are taken at once, and the third stands behind an a.
        book = ("ab", (("", "aa", "", ""), ("#b", "a", "", ""), ("", "b", "", "")), ())
        self.assertEqual(unsaid(book), "aaa")

    def test_exceptions_do_not_count(self):
        rules = (("", "a", "", ""),)
        self.assertEqual(unsaid(("ab", rules, (("b", "X"),))), "b")

    def test_against_all_words(self):
        for number, book in some_books(180, exceptions=4):
            with self.subTest(book=number):
                longest = LONGEST[book[0]]
                told = unsaid(book)
                self.same_least(told, plain.unsaid(book, longest), longest)
                if told is not None:
                    self.assertIsNone(plain.sounds(book[1], told))

    def test_a_word_of_several_letters(self):
        rules = (
            ("", "aa", "", ""),
            ("", "ab", "#b", ""),
            ("#", "bb", "", ""),
            ("", "ab", "ab", ""),
            ("", "bb", "#b", ""),
            ("", "ba", "#a", ""),
            ("", "a", "", ""),
            ("", "b", "#a", ""),
        )
        book = ("ab", rules, ())
        self.assertEqual(plain.unsaid(book, 6), "aabba")
        self.assertEqual(unsaid(book), "aabba")


class Parted(Case):
    def test_the_same_book(self):
        for number, book in some_books(12, exceptions=4):
            self.assertIsNone(parted(book, book))

    def test_other_sounds(self):
        one = ("ab", (("", "a", "", "X"), ("", "b", "", "Y")), ())
        self.assertEqual(parted(one, ("ab", (("", "a", "", "X"), ("", "b", "", "")), ())), "b")
        self.assertEqual(parted(one, ("ab", (("", "aa", "", "XX"),) + one[1], ())), None)
        self.assertEqual(parted(one, ("ab", (("", "aa", "b", "XXX"),) + one[1], ())), "aab")
        self.assertEqual(parted(one, ("ab", (("", "ba", "", "YX"),) + one[1], ())), None)

    def test_just_one_says(self):
        one = ("ab", (("", "a", "", ""), ("", "b", "", "")), ())
        other = ("ab", (("", "a", "", ""), ("", "b", "#a", "")), ())
        self.assertEqual(parted(one, other), "bb")
        self.assertEqual(parted(other, one), "bb")
        self.assertEqual(parted(one, ("ab", (), ())), "a")
        self.assertIsNone(parted(("ab", (), ()), ("ab", (("", "a", "a", "X"),), ())))

    def test_no_sounds_are_not_the_same_as_unsaid(self):
        silent = ("ab", (("", "a", "", ""),), ())
        self.assertEqual(parted(silent, ("ab", (), ())), "a")
        self.assertEqual(parted(("ab", (), (("b", ""),)), ("ab", (), ())), "b")
        self.assertIsNone(parted(("ab", (("#", "a", "#", ""),), ()), ("ab", (), (("a", ""),))))

    def test_exceptions_count(self):
        rules = (("", "a", "", "X"), ("", "b", "", "Y"))
        book = ("ab", rules, ())
        self.assertEqual(parted(book, ("ab", rules, (("aba", "X"),))), "aba")
        self.assertIsNone(parted(book, ("ab", rules, (("aba", "XYX"), ("b", "Y")))))
        book = ("ab", rules, (("a", "Q"),))
        self.assertEqual(parted(book, ("ab", rules, (("a", "Q"), ("bbbbbbbb", "")))), "bbbbbbbb")
        self.assertEqual(parted(book, ("ab", rules, (("a", "R"),))), "a")

    def test_an_exception_hides_what_rules_part(self):
        one = ("ab", (("", "a", "", "X"), ("", "b", "", "Y")), (("b", "Z"), ("ba", "ZX")))
        other = ("ab", (("", "a", "", "X"), ("", "b", "", "Z")), (("ab", "XY"),))
        self.assertEqual(parted(one, other), "bb")
        self.assertEqual(parted(one, ("ab", other[1], (("ab", "XY"), ("bb", "YY")))), "aab")

    def test_exceptions_that_no_rules_say(self):
        one = ("ab", (("", "a", "", "X"),), (("bbb", "Q"),))
        self.assertEqual(parted(one, ("ab", one[1], ())), "bbb")
        self.assertIsNone(parted(one, one))
        other = ("ab", one[1], (("bbb", "Q"), ("bbbb", "R")))
        self.assertEqual(parted(one, other), "bbbb")
        self.assertEqual(parted(other, one), "bbbb")

    def test_an_exception_that_the_other_says_by_rules(self):
        one = ("ab", (), (("ab", "X"),))
        self.assertIsNone(parted(one, ("ab", (("#", "ab", "#", "X"),), ())))
        self.assertEqual(parted(one, ("ab", (("", "ab", "", "X"),), ())), "abab")

    def test_sounds_that_one_tells_earlier(self):
        one = ("ab", (("", "a", "b", "XY"), ("a", "b", "", "")), ())
        self.assertIsNone(parted(one, ("ab", (("", "a", "b", ""), ("a", "b", "", "XY")), ())))
        # Both say ab, abab and so on alone, and the other one is a sound behind from the first letter to the last.
        rules = [("#", "a", "b", "X"), ("b", "a", "b", "YX"), ("a", "b", "a", ""), ("a", "b", "#", "Y")]
        self.assertIsNone(parted(one, ("ab", tuple(rules), ())))
        rules[1] = ("b", "a", "b", "YY")
        self.assertEqual(parted(one, ("ab", tuple(rules), ())), "abab")

    def test_the_same_place_with_another_lead(self):
        # Behind aaaa and behind aaaaaa the same can follow, but only the second ones differ.
        rules = [("#", "aa", "a", ""), ("a", "aa", "a", "X"), ("a", "aa", "b", ""), ("a", "b", "#", "")]
        one = ("ab", tuple(rules), ())
        rules[1] = ("a", "aa", "a", "")
        other = ("ab", tuple(rules), ())
        self.assertEqual(parted(one, other), "aaaaaab")
        self.assertEqual(parted(other, one), "aaaaaab")

    def test_a_lead_that_grows_without_end_and_is_never_told(self):
        one = ("ab", (("", "a", "a", "X"), ("#", "b", "", "")), ())
        other = ("ab", (("", "a", "a", "Y"), ("#", "b", "", "")), ())
        self.assertIsNone(parted(one, other))

    def test_words_of_many_letters(self):
        word = plain.chain_word()
        self.assertEqual(parted(plain.chain("Z"), plain.chain("Y")), word)
        self.assertEqual(parted(plain.chain("Z"), plain.chain("")), word)
        self.assertIsNone(parted(plain.chain("Z"), plain.chain("Z")))
        self.assertEqual(parted(plain.chain(), ("abcd", plain.chain()[1][:11], ())), word)

    def test_other_letters(self):
        self.assertRaises(OtherLetters, parted, ("ab", (), ()), ("abc", (), ()))
        self.assertRaises(OtherLetters, parted, ("ab", (), ()), ("ac", (), ()))
        for one, other in [(("a", (), ()), ("ab", (), ())), (("ab", (), ()), ("a", (), ()))]:
            with self.assertRaises(BadBook) as caught:
                parted(one, other)
            self.assertEqual(caught.exception.part, 0)
        with self.assertRaises(BadBook) as caught:
            parted(("ab", (), ()), ("abc", (None,), ()))
        self.assertEqual((caught.exception.part, caught.exception.number), (1, 0))

    def test_against_all_words(self):
        for number, book in some_books(240, exceptions=5):
            if not book[1]:
                continue
            other = plain.changed(book, number)
            if number % 7 == 0:
                other = (other[0], other[1], plain.some_book(number + 1, book[0], exceptions=3)[2])
            with self.subTest(book=number):
                longest = LONGEST[book[0]]
                told = parted(book, other)
                self.assertEqual(told, parted(other, book))
                self.same_least(told, plain.parted(book, other, longest), longest)
                if told is not None:
                    self.assertNotEqual(plain.said(book, told), plain.said(other, told))

    def test_against_long_words(self):
        long_ones = 0
        for number in range(150):
            letters = ("ab", "ab", "abc")[number % 3]
            book = plain.tight_book(number, letters)
            other = plain.changed(book, number)
            longest = 11 if letters == "ab" else 8
            with self.subTest(book=number):
                told = parted(book, other)
                self.same_least(told, plain.parted_far(book, other, longest), longest)
                if told is not None:
                    self.assertNotEqual(plain.said(book, told), plain.said(other, told))
                    long_ones += len(told) > 5
        self.assertGreater(long_ones, 4)


class Free(Case):
    def test_no_rules_and_one(self):
        self.assertEqual(free(("ab", (), ())), [])
        self.assertEqual(free(("ab", (("", "a", "", "X"),), ())), [])

    def test_some(self):
        rules = (("", "a", "", "X"), ("", "b", "", "X"), ("", "b", "a", "Y"), ("#", "b", "#", "Z"), ("b", "b", "", "X"))
        self.assertEqual(free(("ab", rules, ())), [0, 2, 3])

    def test_the_same_sounds_by_other_rules(self):
        rules = (("", "aa", "", "XX"), ("", "a", "", "X"), ("", "b", "", ""))
        self.assertEqual(free(("ab", rules, ())), [0, 1])
        rules = (("", "aa", "", "XY"), ("", "a", "", "X"), ("", "b", "", ""))
        self.assertEqual(free(("ab", rules, ())), [1])

    def test_a_word_that_is_no_more_said(self):
        rules = (("", "ab", "", ""), ("", "a", "", ""))
        self.assertEqual(free(("ab", rules, ())), [])
        self.assertEqual(free(("ab", rules + (("", "b", "", ""),), ())), [0, 1])

    def test_exceptions_do_not_count(self):
        rules = (("#", "a", "#", "X"), ("", "a", "#", "Y"))
        self.assertEqual(free(("ab", rules, ())), [])
        self.assertEqual(free(("ab", rules, (("a", "X"),))), [])
        self.assertEqual(free(("ab", rules, (("a", "X"), ("aa", "X")))), [])

    def test_twelve_rules(self):
        self.assertEqual(free(("ab", (("", "a", "", "X"),) * 12, ())), list(range(11)))

    def test_rules_that_part_only_a_word_of_many_letters(self):
        letters, rules, _ = plain.chain(many=11)
        self.assertEqual(free((letters, rules, ())), list(range(10)))
        twin = rules[-1][:3] + ("Y",)
        self.assertEqual(parted((letters, rules, ()), (letters, rules[:-1] + (twin,), ())), plain.chain_word(11))
        self.assertEqual(free((letters, rules + (twin,), ())), list(range(10)))
        self.assertEqual(free((letters, (twin,) + rules, ())), list(range(11)))

    def test_against_all_words(self):
        for number, book in some_books(60, exceptions=3):
            with self.subTest(book=number):
                longest = min(LONGEST[book[0]], 6)
                told = free(book)
                self.assertEqual(told, sorted(told))
                for at in range(len(book[1]) - 1):
                    bare = (book[0], book[1], ())
                    swapped = plain.swapped(book, at)
                    slow = plain.parted(bare, swapped, longest)
                    self.same_least(parted(bare, swapped), slow, longest)
                    self.assertEqual(at in told, parted(bare, swapped) is None)
                    if slow is not None:
                        self.assertNotIn(at, told)
                self.assertTrue(all(0 <= at < len(book[1]) - 1 for at in told))


class Needless(Case):
    def test_those_that_rules_say_the_same(self):
        rules = (("", "a", "", "X"), ("", "bb", "", ""))
        pairs = (("a", "X"), ("aa", "X"), ("aab", "XX"), ("aba", "XYX"), ("abba", "XX"), ("b", ""), ("bb", ""))
        self.assertEqual(needless(("ab", rules, pairs)), ["a", "abba", "bb"])

    def test_none(self):
        self.assertEqual(needless(("ab", (), ())), [])
        self.assertEqual(needless(("ab", (), (("a", ""),))), [])

    def test_what_is_told_may_be_changed(self):
        book = ("ab", (("", "a", "", "X"),), (("a", "X"),))
        needless(book).clear()
        self.assertEqual(needless(book), ["a"])

    def test_against_the_slow_way(self):
        for _, book in some_books(120, exceptions=9):
            expected = [word for word, sounds in book[2] if plain.sounds(book[1], word) == sounds]
            self.assertEqual(needless(book), expected)


class Promises(Case):
    def test_asked_again_the_same_is_told(self):
        for _, book in some_books(9, exceptions=4):
            for ask in (idle, free, needless, unsaid):
                self.assertEqual(ask(book), ask(book))

    def test_the_kinds_of_what_is_told(self):
        book = ("ab", (("", "a", "", "X"),), (("a", "X"),))
        self.assertEqual([type(ask(book)) for ask in (idle, free, needless, unsaid)], [list, list, list, str])
        self.assertIs(type(use(book, 0)), str)
        self.assertIsNone(parted(book, book))


if __name__ == "__main__":
    unittest.main()
