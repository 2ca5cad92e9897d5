"""[9]: samples, the fewest rules that say them so, and those that rules don't say so."""

import copy
import random
import unittest

import plain
from saylore.errors import BadBook, BadSamples
from saylore.learning import blamed, least

A, B = ("", "a", "", "X"), ("", "b", "", "Y")
DOORS = (least, blamed)

# Whatever else may be handed in where a list, a sample or a text stands.
OTHERS = [7, 0, -1, True, False, None, 1.5, b"a"]


class Least(unittest.TestCase):
    def test_the_fewest(self):
        rules = (("", "ab", "", "XY"), A, B, ("", "b", "#", "Y"))
        self.assertEqual(least("ab", rules, [("ab", "XY")]), [0])
        self.assertEqual(least("ab", rules, [("ab", "XY"), ("a", "X")]), [0, 1])
        self.assertEqual(least("ab", rules, [("ab", "XY"), ("a", "X"), ("b", "Y")]), [1, 2])
        self.assertEqual(least("ab", rules, [("ba", "YX")]), [1, 2])

    def test_in_their_turn(self):
        rules = (("", "a", "", "X"), ("", "a", "#", "Z"))
        self.assertEqual(least("ab", rules, [("a", "Z")]), [1])
        self.assertIsNone(least("ab", rules, [("aa", "XZ")]))
        self.assertEqual(least("ab", rules[::-1], [("aa", "XZ")]), [0, 1])

    def test_a_rule_that_stands_in_the_way_is_left_out(self):
        rules = (("", "ab", "", "Q"), A, B)
        self.assertEqual(least("ab", rules, [("ab", "XY")]), [1, 2])
        self.assertIsNone(least("ab", rules, [("ab", "XY"), ("abab", "QQ")]))

    def test_no_rules(self):
        self.assertIsNone(least("ab", (), [("a", "")]))
        self.assertEqual(least("ab", (), []), [])

    def test_no_samples(self):
        self.assertEqual(least("ab", (A, B), []), [])

    def test_none(self):
        self.assertIsNone(least("ab", (A, B), [("a", "Y")]))
        self.assertIsNone(least("ab", (A,), [("a", "X"), ("b", "Y")]))

    def test_no_sounds_are_not_the_same_as_unsaid(self):
        self.assertIsNone(least("ab", (A,), [("b", "")]))
        self.assertEqual(least("ab", (A, ("", "b", "", "")), [("b", "")]), [1])

    def test_two_rules_that_are_alike(self):
        self.assertEqual(least("ab", (B, A, A), [("a", "X")]), [1])
        self.assertEqual(least("ab", (A, A, B, B), [("ab", "XY")]), [0, 2])

    def test_of_several_lists_the_first_as_lists_ascend(self):
        rules = (("#", "a", "", "X"), ("", "b", "#", "Y"), ("", "a", "b", "X"), ("a", "b", "", "Y"))
        self.assertEqual(least("ab", rules, [("ab", "XY")]), [0, 1])
        self.assertEqual(least("ab", rules[1:], [("ab", "XY")]), [0, 1])
        self.assertEqual(least("ab", rules[2:] + rules[:2], [("ab", "XY")]), [0, 1])
        # Only 0 and 3, and 1 and 2, say it so.
        rules = (A, ("", "a", "", "XY"), ("", "b", "", ""), B)
        self.assertEqual(least("ab", rules, [("ab", "XY")]), [0, 3])
        rules = (("", "aa", "", "XX"), A, ("", "bb", "", "YY"), B)
        self.assertEqual(least("ab", rules, [("aabb", "XXYY")]), [0, 2])

    def test_the_shorter_list_is_told_ahead_of_the_first(self):
        rules = (A, B, ("", "ab", "", "XY"))
        self.assertEqual(least("ab", rules, [("ab", "XY")]), [2])

    def test_twelve_rules(self):
        pairs = [first + second for first in "abcd" for second in "abc"]
        rules = tuple(("", pair, "", "X") for pair in pairs)
        samples = [(pair, "X") for pair in reversed(pairs)]
        self.assertEqual(least("abcd", rules, samples), list(range(12)))
        self.assertEqual(least("abcd", rules, samples[1:]), list(range(11)))
        self.assertIsNone(least("abcd", rules[1:], samples))
        rules = (("", "ab", "", "Q"),) * 10 + (A, B)
        self.assertEqual(least("ab", rules, [("ab", "XY")]), [10, 11])
        self.assertEqual(least("ab", rules[::-1], [("ab", "XY")]), [0, 1])

    def test_against_the_slow_way(self):
        several = 0
        for number in range(120):
            chance = random.Random(number)
            letters = ("ab", "abc", "abcd")[number % 3]
            rules = plain.some_book(number, letters, plain=0.6, whole=number % 4 != 0)[1][-8:]
            words = ["".join(chance.choice(letters) for _ in range(chance.randint(1, 4))) for _ in range(number % 5)]
            samples = [(word, plain.sounds(rules[number % 2:], word) or "X") for word in words]
            with self.subTest(number=number):
                expected = plain.least_rules(rules, samples)
                self.assertEqual(least(letters, rules, samples), expected)
                self.assertEqual(blamed(letters, rules, samples), plain.blamed(rules, samples))
                several += expected is not None and 1 < len(expected) < len(rules)
        self.assertGreater(several, 20)


class Blamed(unittest.TestCase):
    def test_those_that_rules_do_not_say_so(self):
        samples = [("b", "Y"), ("a", "X"), ("ab", "XX"), ("ab", "XY"), ("ab", "XX"), ("a", "")]
        self.assertEqual(blamed("ab", (A, B), samples), [2, 4, 5])

    def test_those_that_rules_do_not_say(self):
        self.assertEqual(blamed("ab", (A,), [("a", "X"), ("b", ""), ("ab", "X")]), [1, 2])
        self.assertEqual(blamed("ab", (), [("a", ""), ("b", "Y")]), [0, 1])

    def test_none(self):
        self.assertEqual(blamed("ab", (A, B), []), [])
        self.assertEqual(blamed("ab", (A, B), [("ba", "YX")]), [])


class Samples(unittest.TestCase):
    def refused(self, samples, number, rules=(A, B)):
        for ask in DOORS:
            with self.subTest(samples=samples, ask=ask.__name__):
                with self.assertRaises(BadSamples) as caught:
                    ask("ab", rules, samples)
                self.assertEqual(caught.exception.number, number)

    def test_in_any_turn(self):
        samples = [("b", "Y"), ("a", "X"), ("ba", "YX"), ("ab", "XY")]
        self.assertEqual(blamed("ab", (A, B), samples), [])
        self.assertEqual(least("ab", (A, B), samples), [0, 1])

    def test_a_word_twice(self):
        self.assertEqual(least("ab", (A, B), [("a", "X"), ("a", "X")]), [0])
        self.assertEqual(blamed("ab", (A, B), [("a", "X"), ("a", "X")]), [])
        self.assertIsNone(least("ab", (A, B), [("a", "X"), ("a", "Y")]))
        self.assertEqual(blamed("ab", (A, B), [("a", "X"), ("a", "Y"), ("a", "X")]), [1])

    def test_one_to_eight_letters(self):
        self.assertEqual(least("ab", (B, A), [("a" * 8, "X" * 8)]), [1])
        self.assertEqual(blamed("ab", (A, B), [("a", "X"), ("b" * 8, "Y" * 8)]), [])
        self.refused([("", "")], 0)
        self.refused([("a", "X"), ("a" * 9, "X" * 9)], 1)
        for word in OTHERS + ["c", "ac", "#", "a#", "A", " ", "-", ["a"], ("a",), None]:
            self.refused([("a", "X"), ("b", "Y"), (word, "X")], 2)

    def test_36_sounds_and_37(self):
        self.assertEqual(blamed("ab", (A, B), [("a", "X"), ("b", "Y" * 36)]), [1])
        self.assertIsNone(least("ab", (A, B), [("a", "X"), ("b", "Y" * 36)]))
        self.refused([("a", "X"), ("b", "Y" * 37)], 1)
        for sounds in OTHERS + ["x", "X ", "#", "-", "1", ["X"], ("X",)]:
            self.refused([("a", sounds)], 0)

    def test_twelve_and_thirteen(self):
        samples = [("a", "X"), ("b", "Y")] * 6
        self.assertEqual(least("ab", (A, B), samples), [0, 1])
        self.assertEqual(blamed("ab", (A,), samples), [1, 3, 5, 7, 9, 11])
        self.refused(samples + [("a", "X")], 12)
        self.refused(samples + [None], 12)
        self.refused(samples + [("a", "X")] * 9, 12)
        self.refused(samples[:11] + [None, ("a", "X")], 11)

    def test_what_is_no_list(self):
        for samples in OTHERS + ["", "a", (), (("a", "X"),), {}, {"a": "X"}]:
            self.refused(samples, 0)

    def test_what_is_no_pair(self):
        for sample in OTHERS + ["", "aX", [], ["a", "X"], (), ("a",), ("a", "X", "Y"), (("a", "X"),)]:
            self.refused([sample], 0)
            self.refused([("a", "X"), sample, None], 1)

    def test_the_first_of_several(self):
        self.refused([("a", "X"), ("c", "X"), None], 1)
        self.refused([("a", "X"), ("a", "x"), ("c", "X")], 1)

    def test_letters_and_rules_are_refused_first(self):
        for ask in DOORS:
            for letters, rules, part in [("ba", (A,), 0), ("ab", [A], 1), ("ab", (A, None), 1)]:
                for samples in (None, [None], [("a", "X")] * 13):
                    with self.assertRaises(BadBook) as caught:
                        ask(letters, rules, samples)
                    self.assertEqual(caught.exception.part, part)

    def test_they_are_of_the_letters(self):
        for ask in DOORS:
            ask("abc", (A, B), [("c", "X")])
            self.assertRaises(BadSamples, ask, "ab", (A, B), [("c", "X")])


class Promises(unittest.TestCase):
    def test_what_is_told_may_be_changed(self):
        samples = [("ab", "XY"), ("a", "Y")]
        for ask, expected in [(blamed, [1]), (lambda *all_three: least(*all_three[:2], samples[:1]), [0, 1])]:
            told = ask("ab", (A, B), samples)
            self.assertIs(type(told), list)
            told.append(7)
            self.assertEqual(ask("ab", (A, B), samples), expected)

    def test_samples_stay_as_they_are(self):
        samples = [("b", "Y"), ("ab", "XY"), ("a", "Y")]
        before = copy.deepcopy(samples)
        least("ab", (A, B), samples)
        blamed("ab", (A, B), samples)
        self.assertEqual(samples, before)


if __name__ == "__main__":
    unittest.main()
