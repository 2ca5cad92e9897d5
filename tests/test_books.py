"""[2]: what a book is, and how what can't be one is refused at every door."""

import unittest

from saylore.back import writings
from saylore.comparing import free, idle, needless, parted, unsaid, use
from saylore.desks import Desk
from saylore.errors import BadBook
from saylore.learning import blamed, least
from saylore.machines import Sayer
from saylore.notes import written
from saylore.saying import said, walk

LETTERS = "abc"
RULE = ("", "a", "", "X")
RULES = (RULE, ("#a", "bc", "b", "XYZ"), ("", "b", "", ""), ("", "c", "#abc", "Z"))
PAIRS = (("a", "X"), ("ab", ""))
GOOD = (LETTERS, RULES, PAIRS)

# Whatever else may be handed in where a text or a tuple stands.
OTHERS = [7, -1, 0, 1.5, True, False, None, [], ["a"], b"a"]

DOORS = {
    "walk": lambda book: walk(book, "a"),
    "said": lambda book: said(book, "a"),
    "Sayer": Sayer,
    "parted, one": lambda book: parted(book, GOOD),
    "parted, other": lambda book: parted(GOOD, book),
    "use": lambda book: use(book, 0),
    "unsaid": unsaid,
    "idle": idle,
    "free": free,
    "needless": needless,
    "writings": lambda book: writings(book, "X"),
    "Desk": Desk,
    "written": written,
}

# Those that take a book's letters and rules alone.
HALF_DOORS = {"least": least, "blamed": blamed}


def with_rule(rule, number=0):
    return LETTERS, RULES[:number] + (rule,) + RULES[number + 1:], PAIRS


def with_pair(pair, number=0):
    return LETTERS, RULES, PAIRS[:number] + (pair,) + PAIRS[number + 1:]


def rule_with(at, text):
    rule = list(RULE)
    rule[at] = text
    return tuple(rule)


class Case(unittest.TestCase):
    def refused(self, book, part, number, doors=("walk", "needless")):
        for door in doors:
            with self.subTest(book=book, door=door):
                with self.assertRaises(BadBook) as caught:
                    DOORS[door](book)
                self.assertEqual((caught.exception.part, caught.exception.number), (part, number))

    def taken(self, book):
        with self.subTest(book=book):
            self.assertEqual(walk(book, ""), [])
            Sayer(book)


class Doors(Case):
    def test_every_door_refuses(self):
        for book, part, number in [
            (None, -1, 0),
            (("ba", RULES, PAIRS), 0, 0),
            ((LETTERS, list(RULES), PAIRS), 1, 0),
            (with_rule(("", "d", "", "X"), 2), 1, 2),
            ((LETTERS, RULES, (("ab", ""), ("a", "X"))), 2, 1),
        ]:
            self.refused(book, part, number, DOORS)

    def test_the_book_is_refused_first(self):
        for ask in [
            lambda book: walk(book, "?"),
            lambda book: said(book, None),
            lambda book: use(book, -1),
            lambda book: parted(book, None),
            lambda book: parted(("xy", (), ()), book),
            lambda book: writings(book, "x", long=8),
            lambda book: least(book[0], book[1], None),
            lambda book: blamed(book[0], book[1], [None]),
        ]:
            with self.assertRaises(BadBook) as caught:
                ask((LETTERS, (None,), ()))
            self.assertEqual((caught.exception.part, caught.exception.number), (1, 0))

    def test_of_two_books_the_first_is_refused_first(self):
        with self.assertRaises(BadBook) as caught:
            parted((LETTERS, (), None), ("A", (), ()))
        self.assertEqual(caught.exception.part, 2)


    def test_half_doors(self):
        for letters, rules, part, number in [
            *((letters, RULES, 0, 0) for letters in OTHERS + ["", "a", "ba", "aa", "abcde", "AB", "a#", ("a", "b")]),
            *((LETTERS, rules, 1, 0) for rules in OTHERS + ["", "a", [RULE], {}]),
            (LETTERS, (RULE, None), 1, 1),
            (LETTERS, (RULE, ("", "d", "", "X"), None), 1, 1),
            (LETTERS, (RULE,) * 13, 1, 12),
            (LETTERS, (RULE,) * 11 + (None, RULE), 1, 11),
            ("ba", None, 0, 0),
        ]:
            for door, ask in HALF_DOORS.items():
                for samples in ([], [("a", "X")], None, [None]):
                    with self.subTest(letters=letters, rules=rules, door=door, samples=samples):
                        with self.assertRaises(BadBook) as caught:
                            ask(letters, rules, samples)
                        self.assertEqual((caught.exception.part, caught.exception.number), (part, number))

    def test_half_doors_take_what_can_be(self):
        for ask in HALF_DOORS.values():
            for letters, rules in [("ab", ()), ("wxyz", ()), (LETTERS, RULES), (LETTERS, (RULE,) * 12)]:
                self.assertEqual(ask(letters, rules, []), [])


class Parts(Case):
    def test_a_good_book_is_taken(self):
        self.taken(GOOD)
        self.taken(("ab", (), ()))

    def test_no_tuple_of_three(self):
        for book in [*OTHERS, "abc", (), (LETTERS,), (LETTERS, RULES), GOOD + ((),), list(GOOD), (GOOD,)]:
            self.refused(book, -1, 0)

    def test_letters(self):
        for letters in ("ab", "abcd", "yz", "az", "wxyz"):
            self.taken((letters, (), ()))
        for letters in (
            ["", "a", "abcde", "ba", "acb", "aa", "aab", "abb", "Ab", "aB", "AB", "a#", "#a", "a1", "a ", " a"]
            + ["`a", "a{", "a\u00e4", "a\u0431", "a\n", "a\x00", ("a", "b"), ["a", "b"], b"ab"] + OTHERS
        ):
            self.refused((letters, RULES, PAIRS), 0, 0)

    def test_the_first_part_that_can_not_be(self):
        self.refused(("a", None, None), 0, 0)
        self.refused((None, (None,), (None,)), 0, 0)
        self.refused((LETTERS, None, None), 1, 0)
        self.refused((LETTERS, RULES + (None,), (None,)), 1, len(RULES))
        self.refused((LETTERS, RULES, None), 2, 0)


class Rules(Case):
    def test_rules_that_are_no_tuple(self):
        for rules in OTHERS + ["", "a", [RULE], {}]:
            self.refused((LETTERS, rules, PAIRS), 1, 0)

    def test_no_rule_twelve_and_thirteen(self):
        self.taken((LETTERS, (), ()))
        self.taken((LETTERS, (RULE,) * 12, ()))
        self.refused((LETTERS, (RULE,) * 13, ()), 1, 12)
        self.refused((LETTERS, (RULE,) * 12 + (None,), ()), 1, 12)
        self.refused((LETTERS, (RULE,) * 20, ()), 1, 12)
        self.refused((LETTERS, (RULE,) * 11 + (None, RULE), ()), 1, 11)

    def test_a_rule_that_is_no_tuple_of_four(self):
        for rule in OTHERS + ["", "abcd", (), RULE[:3], RULE + ("",), list(RULE)]:
            for number in (0, 2, 3):
                self.refused(with_rule(rule, number), 1, number)

    def test_a_rule_beyond_the_last(self):
        self.refused((LETTERS, RULES + (None,), PAIRS), 1, len(RULES))

    def test_own(self):
        for own in ("a", "c", "ab", "ba", "aa", "cc"):
            self.taken(with_rule(rule_with(1, own)))
        for own in OTHERS + ["", "abc", "aaa", "d", "ad", "#", "a#", "#a", "A", " ", ("a",), ["a", "b"]]:
            self.refused(with_rule(rule_with(1, own)), 1, 0)

    def test_ahead_and_behind(self):
        for at in (0, 2):
            for signs in ("", "#", "a", "c", "#a", "#abc", "ac", "abc", "#c"):
                self.taken(with_rule(rule_with(at, signs)))
            for signs in (
                OTHERS
                + ["a#", "ba", "#ba", "aa", "##", "#aab", "abb", "d", "#d", "abcd", "A", " ", "#abc#", "a##"]
                + [("#",), ["a"], ()]
            ):
                self.refused(with_rule(rule_with(at, signs)), 1, 0)

    def test_sounds(self):
        for sounds in ("", "A", "Z", "ZA", "AAA", "XYZ"):
            self.taken(with_rule(rule_with(3, sounds)))
        for sounds in OTHERS + ["ABCD", "x", "Xy", "#", " ", "X1", "@", "[", "\u00c4", ("X",), ["X"]]:
            self.refused(with_rule(rule_with(3, sounds)), 1, 0)

    def test_the_first_of_several(self):
        self.refused((LETTERS, (RULE, ("", "d", "", ""), None, RULE), ()), 1, 1)


class Exceptions(Case):
    def test_exceptions_that_are_no_tuple(self):
        for pairs in OTHERS + ["", "a", [("a", "X")], {}, {"a": "X"}]:
            self.refused((LETTERS, RULES, pairs), 2, 0)

    def test_eight_and_nine(self):
        pairs = tuple((word, "X") for word in ("a", "aa", "ab", "ac", "b", "ba", "c", "ca", "cb"))
        self.taken((LETTERS, RULES, pairs[:8]))
        self.refused((LETTERS, RULES, pairs), 2, 8)
        self.refused((LETTERS, RULES, pairs[:8] + (None,)), 2, 8)
        self.refused((LETTERS, RULES, pairs[:7] + (None,) + pairs[8:]), 2, 7)
        self.refused((LETTERS, RULES, pairs + (None,)), 2, 8)

    def test_a_pair_that_is_no_tuple_of_two(self):
        for pair in OTHERS + ["", "aX", (), ("b",), ("b", "X", "Y"), ["b", "X"]]:
            for number in (0, 1):
                self.refused(with_pair(pair, number), 2, number)

    def test_words(self):
        for word in ("a", "c", "aaaaaaaa", "abcabcab"):
            self.taken((LETTERS, RULES, ((word, "X"),)))
        for word in OTHERS + ["", "aaaaaaaaa", "abcabcabc", "d", "ad", "#", "a#", "A", " ", ("a",)]:
            self.refused((LETTERS, RULES, ((word, "X"),)), 2, 0)

    def test_words_rise_as_texts(self):
        self.taken((LETTERS, RULES, (("a", ""), ("aa", ""), ("ab", ""), ("b", ""), ("ba", ""))))
        self.refused((LETTERS, RULES, (("b", ""), ("a", ""))), 2, 1)
        self.refused((LETTERS, RULES, (("a", ""), ("c", ""), ("b", ""), ("a", ""))), 2, 2)
        self.refused((LETTERS, RULES, (("ab", ""), ("a", ""))), 2, 1)
        self.refused((LETTERS, RULES, (("b", ""), ("aa", ""))), 2, 1)

    def test_a_word_twice(self):
        self.refused((LETTERS, RULES, (("a", "X"), ("a", "X"))), 2, 1)
        self.refused((LETTERS, RULES, (("a", "X"), ("b", "X"), ("b", "Y"))), 2, 2)

    def test_sounds(self):
        for sounds in ("", "A", "Z" * 36):
            self.taken((LETTERS, RULES, (("a", sounds),)))
        for sounds in OTHERS + ["Z" * 37, "x", "X#", "X X", "1", ("X",)]:
            self.refused((LETTERS, RULES, (("a", sounds),)), 2, 0)

    def test_the_first_of_several(self):
        self.refused((LETTERS, RULES, (("b", "X"), ("a", "X"), None)), 2, 1)
        self.refused((LETTERS, RULES, (("b", "X"), ("c", "x"), ("a", "X"))), 2, 1)


if __name__ == "__main__":
    unittest.main()
