"""[10] and [11]: desks, one change at a time and by batches."""

import copy
import random
import unittest

import plain
from saylore.desks import Desk
from saylore.errors import (
    BadBook, BadCount, BadDeed, BadSounds, BadWord, Halted, NoException, SayError, Unsaid
)

A, B = ("", "a", "", "X"), ("", "b", "", "Y")
C, D = ("#", "ab", "", "Q"), ("", "b", "#a", "")
BOOK = ("ab", (A, B, C), (("ab", "Z"), ("b", "Y")))
BARE = ("ab", (A, B, C), ())
EIGHT = tuple((word, "Z") for word in ("a", "aa", "aaa", "ab", "b", "ba", "bb", "bbb"))

# What is no number, and whatever else may be handed in where a rule, a text or a list stands.
NO_NUMBERS = [True, False, None, "", "0", [], [0], (), (0,), {}, 0.0, 1.5]
NO_RULES = [None, 7, True, "", "abcd", (), A[:3], A + ("",), list(A), ("", "c", "", ""), ("a#", "a", "", ""),
            ("", "", "", ""), ("", "aaa", "", ""), ("", "a", "ba", ""), ("", "a", "", "WXYZ"), ("", "a", "", "x")]
NO_WORDS = ["", "a" * 9, "c", "ac", "A", "#", "-", " ", 0, 7, True, False, None, [], ["a"], (), ("a",), {}, b"a", 1.5]
NO_SOUNDS = ["x", "X ", "-", "X" * 37, 0, 7, True, False, None, [], ["X"], (), ("X",), {}, b"X", 1.5]


def rules_of(desk):
    return list(desk.book()[1])


class Case(unittest.TestCase):
    def refused(self, desk, error, ask, *things, **values):
        """What is refused tells the error and its values, and changes nothing."""
        before = (desk.book(), desk.told(), desk.is_idle())
        with self.subTest(ask=ask, things=things):
            with self.assertRaises(error) as caught:
                getattr(desk, ask)(*things)
            self.assertIs(type(caught.exception), error)
            for name, value in values.items():
                self.assertEqual(getattr(caught.exception, name), value)
        self.assertEqual((desk.book(), desk.told(), desk.is_idle()), before)


class Books(Case):
    def test_the_book_as_it_was_handed_in(self):
        for book in (BOOK, BARE, ("ab", (), ()), ("abcd", (A,) * 12, EIGHT)):
            desk = Desk(book)
            self.assertEqual(desk.book(), book)
            self.assertEqual(desk.book(), desk.book())
            self.assertIs(type(desk.book()), tuple)
            self.assertEqual([type(part) for part in desk.book()], [str, tuple, tuple])

    def test_what_can_be_no_book(self):
        for book, part, number in [
            (None, -1, 0), (("a", (), ()), 0, 0), (("ab", [], ()), 1, 0), (("ab", (), None), 2, 0)
        ]:
            with self.assertRaises(BadBook) as caught:
                Desk(book)
            self.assertEqual((caught.exception.part, caught.exception.number), (part, number))

    def test_what_was_told_stays_as_it_is(self):
        before = copy.deepcopy(BOOK)
        desk = Desk(BOOK)
        told = [desk.book()]
        for ask, things in [
            ("put", (0, D)), ("drop", (1,)), ("move", (0, 2)), ("learn", ("aa", "W")), ("forget", ("ab",))
        ]:
            kept = copy.deepcopy(told)
            getattr(desk, ask)(*things)
            self.assertEqual(told, kept)
            self.assertNotEqual(desk.book(), told[-1])
            told.append(desk.book())
        self.assertEqual(BOOK, before)

    def test_two_desks_do_not_touch_each_other(self):
        one, other = Desk(BOOK), Desk(BOOK)
        one.batch([("drop", 0), ("forget", "b")])
        one.put(0, D)
        self.assertEqual(other.book(), BOOK)
        self.assertEqual(other.told(), [])
        other.learn("bb", "W")
        self.assertEqual(one.book(), ("ab", (D, B, C), (("ab", "Z"),)))


class Say(Case):
    def test_exceptions_and_rules(self):
        desk = Desk(BOOK)
        self.assertEqual([desk.say(word) for word in ("", "ab", "b", "aba", "bab")], ["", "Z", "Y", "XYX", "YXY"])
        self.assertIs(type(desk.say("ab")), str)

    def test_as_the_book_stands(self):
        desk = Desk(BOOK)
        desk.move(2, 0)
        self.assertEqual([desk.say("ab"), desk.say("aba")], ["Z", "QX"])
        desk.forget("ab")
        self.assertEqual(desk.say("ab"), "Q")
        desk.learn("aba", "")
        self.assertEqual(desk.say("aba"), "")
        desk.drop(0)
        self.assertEqual(desk.say("ab"), "XY")

    def test_unsaid(self):
        desk = Desk(("ab", (A,), (("ab", "Z"),)))
        self.assertEqual(desk.say("ab"), "Z")
        self.refused(desk, Unsaid, "say", "b", place=0)
        self.refused(desk, Unsaid, "say", "aab", place=2)

    def test_words(self):
        desk = Desk(BOOK)
        self.assertEqual(desk.say("b" * 12), "Y" * 12)
        for word in NO_WORDS[2:] + ["b" * 13]:
            self.refused(desk, BadWord, "say", word)


class Put(Case):
    def test_at_each_place(self):
        for place in range(4):
            desk = Desk(BOOK)
            self.assertIsNone(desk.put(place, D))
            expected = [A, B, C]
            expected.insert(place, D)
            self.assertEqual(desk.book(), ("ab", tuple(expected), BOOK[2]))

    def test_the_first_rule(self):
        desk = Desk(("ab", (), ()))
        for place in (1, -1):
            self.refused(desk, BadCount, "put", place, A)
        desk.put(0, A)
        self.assertEqual(rules_of(desk), [A])

    def test_places_out_of_bounds(self):
        desk = Desk(BOOK)
        for place in NO_NUMBERS + [-1, 4, 5, 12, 13, 10 ** 5000, -10 ** 5000]:
            self.refused(desk, BadCount, "put", place, D)
            self.refused(desk, BadCount, "put", place, None)

    def test_a_rule_that_is_none(self):
        desk = Desk(BOOK)
        for rule in NO_RULES:
            for place in (0, 2, 3):
                self.refused(desk, BadBook, "put", place, rule, part=1, number=place)

    def test_the_twelfth_and_the_thirteenth(self):
        desk = Desk(("ab", (A,) * 11, ()))
        desk.put(11, B)
        self.assertEqual(rules_of(desk), [A] * 11 + [B])
        for place in (0, 5, 11, 12):
            self.refused(desk, BadBook, "put", place, A, part=1, number=place)
            self.refused(desk, BadBook, "put", place, None, part=1, number=place)
        for place in (-1, 13, True):
            self.refused(desk, BadCount, "put", place, A)
        desk.drop(0)
        desk.put(0, C)
        self.assertEqual(rules_of(desk), [C] + [A] * 10 + [B])

    def test_rules_are_of_the_letters(self):
        rule = ("", "c", "", "")
        self.refused(Desk(BOOK), BadBook, "put", 0, rule, part=1, number=0)
        desk = Desk(("abc",) + BOOK[1:])
        desk.put(0, rule)
        self.assertEqual(rules_of(desk), [rule, A, B, C])


class Drop(Case):
    def test_each_place(self):
        for place in range(3):
            desk = Desk(BOOK)
            self.assertEqual(desk.drop(place), BOOK[1][place])
            self.assertEqual(desk.book(), ("ab", BOOK[1][:place] + BOOK[1][place + 1:], BOOK[2]))

    def test_places_out_of_bounds(self):
        desk = Desk(BOOK)
        for place in NO_NUMBERS + [-1, -3, 3, 4, 10 ** 5000]:
            self.refused(desk, BadCount, "drop", place)

    def test_no_rules(self):
        desk = Desk(("ab", (A,), ()))
        self.assertIs(type(desk.drop(0)), tuple)
        for place in (0, -1, 1, False):
            self.refused(desk, BadCount, "drop", place)


class Move(Case):
    def test_from_each_place_to_each(self):
        rules = (A, B, C, D)
        for place in range(4):
            for other in range(4):
                desk = Desk(("ab", rules, BOOK[2]))
                self.assertIsNone(desk.move(place, other))
                rest = [rule for rule in rules if rule != rules[place]]
                self.assertEqual(desk.book()[1][other], rules[place])
                self.assertEqual([rule for rule in desk.book()[1] if rule != rules[place]], rest)
                self.assertEqual((desk.book()[0], desk.book()[2]), ("ab", BOOK[2]))

    def test_to_both_ends(self):
        desk = Desk(("ab", (A, B, C, D), ()))
        desk.move(0, 3)
        self.assertEqual(rules_of(desk), [B, C, D, A])
        desk.move(3, 0)
        self.assertEqual(rules_of(desk), [A, B, C, D])
        desk.move(1, 2)
        self.assertEqual(rules_of(desk), [A, C, B, D])

    def test_twelve_rules(self):
        desk = Desk(("ab", (A,) * 11 + (B,), ()))
        desk.move(11, 0)
        self.assertEqual(rules_of(desk), [B] + [A] * 11)

    def test_places_out_of_bounds(self):
        desk = Desk(BOOK)
        for place in NO_NUMBERS + [-1, -3, 3, 4, 10 ** 5000]:
            self.refused(desk, BadCount, "move", place, 0)
            self.refused(desk, BadCount, "move", 0, place)
            self.refused(desk, BadCount, "move", place, place)
        self.refused(Desk(("ab", (), ())), BadCount, "move", 0, 0)


class Learn(Case):
    def test_a_word_that_rules_say_so(self):
        desk = Desk(BARE)
        self.assertIs(desk.learn("ba", "YX"), False)
        self.assertEqual(desk.book(), BARE)

    def test_a_word_that_rules_say_otherwise(self):
        desk = Desk(BARE)
        self.assertIs(desk.learn("ba", "Y"), True)
        self.assertEqual(desk.book(), ("ab", BARE[1], (("ba", "Y"),)))

    def test_a_word_that_rules_do_not_say(self):
        desk = Desk(("ab", (A,), ()))
        self.assertIs(desk.learn("b", ""), True)
        self.assertIs(desk.learn("ab", "X"), True)
        self.assertEqual(desk.book()[2], (("ab", "X"), ("b", "")))

    def test_an_exception_that_rules_say_so(self):
        desk = Desk(BOOK)
        self.assertIs(desk.learn("ab", "XY"), False)
        self.assertEqual(desk.book()[2], (("b", "Y"),))
        # It is needless, but stays an exception till it is learned again.
        self.assertIs(desk.learn("b", "Y"), False)
        self.assertEqual(desk.book()[2], ())

    def test_an_exception_that_rules_say_otherwise(self):
        desk = Desk(BOOK)
        self.assertIs(desk.learn("ab", "W"), True)
        self.assertEqual(desk.book()[2], (("ab", "W"), ("b", "Y")))
        self.assertIs(desk.learn("ab", "W"), True)
        self.assertIs(desk.learn("b", ""), True)
        self.assertEqual(desk.book()[2], (("ab", "W"), ("b", "")))

    def test_words_rise(self):
        desk = Desk(BARE)
        for word in ("b", "aa", "a", "ba", "ab", "aaaaaaaa"):
            self.assertIs(desk.learn(word, "Z"), True)
        self.assertEqual([word for word, _ in desk.book()[2]], ["a", "aa", "aaaaaaaa", "ab", "b", "ba"])
        self.assertEqual(Desk(desk.book()).book(), desk.book())

    def test_one_to_eight_letters_and_36_sounds(self):
        desk = Desk(BARE)
        self.assertIs(desk.learn("b" * 8, "Z" * 36), True)
        self.assertEqual(desk.book()[2], (("b" * 8, "Z" * 36),))
        for word in NO_WORDS:
            self.refused(desk, BadWord, "learn", word, "Z")
            self.refused(desk, BadWord, "learn", word, "x")
        for sounds in NO_SOUNDS:
            self.refused(desk, BadSounds, "learn", "a", sounds)

    def test_the_ninth(self):
        desk = Desk(("ab", (A, B), EIGHT))
        self.refused(desk, BadBook, "learn", "bbbb", "Z", part=2, number=8)
        self.assertIs(desk.learn("bbbb", "YYYY"), False)
        self.assertEqual(desk.book()[2], EIGHT)
        self.assertIs(desk.learn("ab", "W"), True)
        self.assertEqual(dict(desk.book()[2])["ab"], "W")
        self.assertEqual(len(desk.book()[2]), 8)
        self.refused(desk, BadBook, "learn", "aab", "Z", part=2, number=8)
        self.refused(desk, BadWord, "learn", "", "Z")
        self.refused(desk, BadSounds, "learn", "aab", "z")
        self.assertIs(desk.learn("ab", "XY"), False)
        self.assertEqual(len(desk.book()[2]), 7)
        self.assertIs(desk.learn("aab", "Z"), True)
        self.assertEqual(len(desk.book()[2]), 8)

    def test_rules_that_were_changed(self):
        desk = Desk(BARE)
        self.assertIs(desk.learn("ab", "Q"), True)
        desk.move(2, 0)
        self.assertEqual(desk.book()[2], (("ab", "Q"),))
        self.assertIs(desk.learn("ab", "Q"), False)
        self.assertEqual(desk.book()[2], ())


class Forget(Case):
    def test_its_sounds_are_told(self):
        desk = Desk(BOOK)
        self.assertEqual(desk.forget("ab"), "Z")
        self.assertEqual(desk.book(), ("ab", BOOK[1], (("b", "Y"),)))
        self.refused(desk, NoException, "forget", "ab")
        self.assertEqual(desk.forget("b"), "Y")
        self.assertEqual(desk.book(), BARE)

    def test_no_sounds(self):
        desk = Desk(("ab", (), (("a", ""),)))
        self.assertEqual(desk.forget("a"), "")
        self.assertEqual(desk.book(), ("ab", (), ()))

    def test_what_is_no_exception(self):
        desk = Desk(BOOK)
        for word in NO_WORDS + ["a", "ba", "b" * 12, "b" * 13, "bc", ("ab", "Z")]:
            self.refused(desk, NoException, "forget", word)


class Batch(Case):
    def halted(self, desk, deeds, number, done, cause, **keep):
        with self.assertRaises(Halted) as caught:
            desk.batch(deeds, **keep)
        self.assertEqual((caught.exception.number, caught.exception.done), (number, done))
        self.assertIs(type(caught.exception.__cause__), cause)
        self.assertIs(desk.is_idle(), True)

    def test_each_of_the_five(self):
        desk = Desk(BOOK)
        deeds = [("put", 0, D), ("drop", 1), ("move", 0, 2), ("learn", "aa", "W"), ("learn", "b", ""), ("forget", "ab")]
        self.assertEqual(desk.batch(deeds), [None, A, None, True, True, "Z"])
        self.assertEqual(desk.book(), ("ab", (B, C, D), (("aa", "W"), ("b", ""))))
        self.assertEqual(desk.told(), ["begun", "put", "drop", "move", "learn", "learn", "forget", "ended"])
        self.assertEqual(desk.batch([("learn", "b", "Y")], keep=False), [False])
        self.assertEqual(desk.told()[-3:], ["begun", "learn", "ended"])

    def test_an_empty_one(self):
        desk = Desk(BOOK)
        self.assertEqual(desk.batch([]), [])
        self.assertEqual(desk.batch([], keep=False), [])
        self.assertEqual(desk.told(), ["begun", "ended"] * 2)
        self.assertEqual(desk.book(), BOOK)

    def test_what_is_no_list(self):
        desk = Desk(BOOK)
        for deeds in [None, 7, True, "", "drop", (), (("drop", 0),), ("drop", 0), {}, 1.5]:
            self.refused(desk, BadDeed, "batch", deeds, number=0)

    def test_what_is_no_deed(self):
        desk = Desk(BOOK)
        for deed in [
            None, 7, True, "drop", "", [], ["drop", 0], (), ("drop",), ("drop", 0, 0), ("put", 0), ("put", 0, A, 0),
            ("move", 0), ("move", 0, 1, 2), ("learn", "a"), ("learn", "a", "X", 0), ("forget",), ("forget", "a", "X"),
            ("say", "a"), ("book",), ("told",), ("is_idle",), ("batch", []), ("batch",), ("Drop", 0), ("drop ", 0),
            ("", 0), (None, 0), (0, 0), ([], 0), (["drop"], 0), (("drop",), 0), (True, 0), ({}, 0),
        ]:
            self.refused(desk, BadDeed, "batch", [deed], number=0)
            self.refused(desk, BadDeed, "batch", [("drop", 0), ("forget", "b"), deed], number=2)
            # Ahead of all deeds: those ahead of it would be refused, and another one behind it can't be, either.
            bad = [("drop", 99), ("forget", "x"), ("put", 0, None), deed, None]
            self.refused(desk, BadDeed, "batch", bad, number=3)
        self.assertEqual(desk.told(), [])

    def test_deeds_are_refused_as_the_methods_refuse(self):
        for deed, cause in [
            (("put", 9, A), BadCount),
            (("put", 0, None), BadBook),
            (("drop", 3), BadCount),
            (("drop", None), BadCount),
            (("move", 0, True), BadCount),
            (("learn", "", "X"), BadWord),
            (("learn", "a", None), BadSounds),
            (("forget", "a"), NoException),
            (("forget", []), NoException),
        ]:
            desk = Desk(BOOK)
            self.halted(desk, [deed], 0, 0, cause)
            self.halted(desk, [deed, ("drop", 0)], 0, 0, cause, keep=False)
            self.assertEqual(desk.book(), BOOK)
            self.assertEqual(desk.told(), ["begun", "ended"] * 2)
            self.halted(desk, [("learn", "aa", "W"), deed], 1, 1, cause)
            self.assertEqual(desk.book(), ("ab", BOOK[1], (("aa", "W"),) + BOOK[2]))

    def test_all_ahead_of_it_stand(self):
        deeds = [("drop", 0), ("learn", "a", "W"), ("drop", 2), ("drop", 0)]
        desk = Desk(BOOK)
        self.halted(desk, deeds, 2, 2, BadCount)
        self.assertEqual(desk.book(), ("ab", (B, C), (("a", "W"),) + BOOK[2]))
        self.assertEqual(desk.told(), ["begun", "drop", "learn", "ended"])
        desk = Desk(BOOK)
        self.halted(desk, deeds, 2, 2, BadCount, keep=True)
        self.assertEqual(desk.book(), ("ab", (B, C), (("a", "W"),) + BOOK[2]))

    def test_none_stands(self):
        desk = Desk(BOOK)
        desk.put(0, D)
        desk.learn("aa", "W")
        before = desk.book()
        deeds = [("drop", 0), ("learn", "a", "W"), ("forget", "aa"), ("move", 0, 1), ("put", 0, D), ("drop", 9)]
        self.halted(desk, deeds, 5, 0, BadCount, keep=False)
        self.assertEqual(desk.book(), before)
        self.assertEqual(desk.told(), ["begun", "drop", "learn", "forget", "move", "put", "ended"])
        self.assertEqual(desk.batch(deeds[:-1], keep=False), [D, True, "W", None, None])
        self.assertEqual(desk.book(), ("ab", (D, B, A, C), (("a", "W"),) + BOOK[2]))

    def test_only_the_batch_that_was_refused_is_undone(self):
        desk = Desk(BOOK)
        desk.batch([("drop", 0)], keep=False)
        self.halted(desk, [("drop", 0), ("drop", 0), ("drop", 0)], 2, 0, BadCount, keep=False)
        self.assertEqual(rules_of(desk), [B, C])
        self.halted(desk, [("drop", 0), ("drop", 9)], 1, 1, BadCount)
        self.halted(desk, [("drop", 0), ("drop", 0)], 1, 0, BadCount, keep=False)
        self.assertEqual(rules_of(desk), [C])

    def test_the_ninth_exception_and_the_thirteenth_rule(self):
        desk = Desk(("ab", (A,) * 11, EIGHT[:7]))
        self.halted(desk, [("learn", "bbb", "Z"), ("learn", "bba", "Z")], 1, 1, BadBook)
        self.halted(desk, [("put", 0, A), ("put", 0, A)], 1, 0, BadBook, keep=False)
        self.assertEqual(desk.book(), ("ab", (A,) * 11, EIGHT))

    def test_deeds_are_neither_changed_nor_kept(self):
        deeds = [("drop", 0), ("learn", "a", "W"), ("drop", 9)]
        before = copy.deepcopy(deeds)
        desk = Desk(BOOK)
        self.halted(desk, deeds, 2, 0, BadCount, keep=False)
        self.assertEqual(deeds, before)
        told = desk.told()
        deeds.clear()
        self.assertEqual((desk.told(), desk.book()), (told, BOOK))

    def test_what_is_told_may_be_changed(self):
        desk = Desk(BOOK)
        answers = desk.batch([("drop", 0), ("drop", 0)])
        answers.clear()
        self.assertEqual(rules_of(desk), [C])
        desk.told().clear()
        told = desk.told()
        told.append("put")
        self.assertEqual(desk.told(), ["begun", "drop", "drop", "ended"])
        self.assertIs(type(desk.told()), list)

    def test_told_is_of_batches_alone(self):
        desk = Desk(BOOK)
        self.assertEqual(desk.told(), [])
        desk.put(0, D)
        desk.drop(0)
        desk.learn("a", "W")
        self.assertEqual(desk.told(), [])
        desk.batch([("drop", 0)])
        desk.forget("a")
        self.assertEqual(desk.told(), ["begun", "drop", "ended"])


class Idle(Case):
    def test_whenever_none_is_under_way(self):
        desk = Desk(BOOK)
        self.assertIs(desk.is_idle(), True)
        desk.batch([("drop", 0)])
        self.assertIs(desk.is_idle(), True)
        for deeds, keep in [([("drop", 9)], True), ([("drop", 9)], False), ([None], True), (None, True)]:
            self.assertRaises(SayError, desk.batch, deeds, keep=keep)
            self.assertIs(desk.is_idle(), True)

    def test_not_while_one_is_under_way(self):
        seen = []

        class Watched(Desk):
            def drop(self, place):
                seen.append((self.is_idle(), self.told()))
                return Desk.drop(self, place)

        desk = Watched(BOOK)
        desk.drop(0)
        desk.batch([("put", 0, A), ("drop", 0)])
        self.assertRaises(Halted, desk.batch, [("drop", 9)])
        self.assertEqual([idle for idle, _ in seen], [True, False, False])
        self.assertEqual(seen[1][1], ["begun", "put"])
        self.assertIs(desk.is_idle(), True)


class AgainstTheSlowWay(Case):
    """Many deeds at random, against lists that are changed."""

    def some_deed(self, chance):
        place, other = chance.randint(-1, 5), chance.randint(-1, 5)
        word = "".join(chance.choice("ab") for _ in range(chance.choice((0, 1, 1, 2, 2, 3, 9))))
        return chance.choice((
            ("put", place, chance.choice((A, B, C, D, D, None))),
            ("put", place, chance.choice((A, B, C, D))),
            ("drop", place),
            ("move", place, other),
            ("learn", word, chance.choice(("X", "Y", "XY", "YX", "", "Q", "Z", "x"))),
            ("learn", word, chance.choice(("X", "Y", "XY", "YX", "", "Q", "Z"))),
            ("forget", word),
        ))

    def done(self, rules, known, deed):
        """Do a deed to a list of rules and a dict of exceptions, and return (whether it can be, what it tells)."""
        kind, first, second = (*deed, None)[:3]
        if kind == "put":
            can_be = 0 <= first <= len(rules) < 12 and second is not None
            return can_be, rules.insert(first, second) if can_be else None
        if kind in ("drop", "move"):
            can_be = 0 <= first < len(rules) and (kind == "drop" or 0 <= second < len(rules))
            if not can_be:
                return False, None
            rule = rules.pop(first)
            return True, rule if kind == "drop" else rules.insert(second, rule)
        if kind == "forget":
            return first in known, known.pop(first, None)
        if not 1 <= len(first) <= 8 or second == "x":
            return False, None
        if plain.sounds(rules, first) == second:
            known.pop(first, None)
            return True, False
        if len(known) == 8 and first not in known:
            return False, None
        known[first] = second
        return True, True

    def test_one_by_one(self):
        for number in range(60):
            chance = random.Random(number)
            desk, rules, known = Desk(BOOK), list(BOOK[1]), dict(BOOK[2])
            for _ in range(60):
                kind, *things = deed = self.some_deed(chance)
                can_be, told = self.done(rules, known, deed)
                if can_be:
                    self.assertEqual(getattr(desk, kind)(*things), told)
                else:
                    self.assertRaises(SayError, getattr(desk, kind), *things)
                self.assertEqual(desk.book(), ("ab", tuple(rules), tuple(sorted(known.items()))))
                Desk(desk.book())

    def test_by_batches(self):
        halts = 0
        for number in range(150):
            chance = random.Random(number)
            desk, rules, known, words = Desk(BOOK), list(BOOK[1]), dict(BOOK[2]), []
            for _ in range(12):
                keep = chance.random() < 0.5
                deeds = [self.some_deed(chance) for _ in range(chance.randint(0, 5))]
                before = (list(rules), dict(known))
                answers, refused = [], None
                words.append("begun")
                for at, deed in enumerate(deeds):
                    can_be, told = self.done(rules, known, deed)
                    if not can_be:
                        refused = at
                        break
                    words.append(deed[0])
                    answers.append(told)
                words.append("ended")
                if refused is None:
                    self.assertEqual(desk.batch(deeds, keep=keep), answers)
                else:
                    halts += 1
                    with self.assertRaises(Halted) as caught:
                        desk.batch(deeds, keep=keep)
                    self.assertEqual(caught.exception.number, refused)
                    self.assertEqual(caught.exception.done, refused if keep else 0)
                    rules, known = (rules, known) if keep else before
                self.assertEqual(desk.book(), ("ab", tuple(rules), tuple(sorted(known.items()))))
                self.assertEqual(desk.told(), words)
        self.assertGreater(halts, 100)


if __name__ == "__main__":
    unittest.main()
