"""[4] and [5]: the Sayer, letter by letter."""

import unittest

import plain
from saylore.errors import BadWord, NoLetter, Unsaid
from saylore.machines import Sayer

BOOK = (
    "ab",
    (("", "aa", "b", "T"), ("#", "a", "", "XYZ"), ("", "a", "", "A"), ("", "b", "", "BC")),
    (("a", "Q"), ("aab", "R")),
)

# Rules that don't say a b behind a b, nor an a at the word's end.
STRICT = ("ab", (("", "a", "ab", "A"), ("#a", "b", "", "B")), (("ba", "Q"),))


def feed_all(sayer, word):
    return [sayer.feed(letter) for letter in word]


def state_of(sayer):
    """All that a sayer tells from now on, told by what it tells (and left as it was, by back)."""
    word = sayer.word()
    made = []
    while sayer.word():
        made.append(sayer.back())
    for letter in word:
        made.append(sayer.feed(letter))
    return word, made


class Feed(unittest.TestCase):
    def test_a_place_is_settled_once_two_more_letters_are_there(self):
        sayer = Sayer(BOOK)
        self.assertEqual(feed_all(sayer, "aba"), ["", "", "XYZ"])
        self.assertEqual(feed_all(sayer, "aab"), ["BC", "A", "T"])
        self.assertEqual(sayer.end(), "BC")

    def test_behind_two_letters_nothing_is_settled_for_a_while(self):
        sayer = Sayer(BOOK)
        self.assertEqual(feed_all(sayer, "aabbb"), ["", "", "T", "", "BC"])
        self.assertEqual(sayer.end(), "BCBC")

    def test_exceptions_are_passed_by(self):
        sayer = Sayer(BOOK)
        self.assertEqual("".join(feed_all(sayer, "aab")) + sayer.end(), "TBC")
        self.assertEqual("".join(feed_all(sayer, "a")) + sayer.end(), "XYZ")

    def test_word_tells_the_letters_so_far(self):
        sayer = Sayer(BOOK)
        self.assertEqual(sayer.word(), "")
        for size, letter in enumerate("abba"):
            sayer.feed(letter)
            self.assertEqual(sayer.word(), "abba"[:size + 1])
        self.assertEqual(sayer.word(), sayer.word())

    def test_what_is_no_letter(self):
        sayer = Sayer(BOOK)
        feed_all(sayer, "aab")
        before = state_of(sayer)
        for letter in ["", "ab", "ba", "c", "#", "A", " ", "aa", "\u00e4"]:
            self.assertRaises(BadWord, sayer.feed, letter)
        for letter in [0, 1, -1, 10 ** 5000, 1.5, True, False, None, [], ["a"], (), ("a",), b"a"]:
            self.assertRaises(BadWord, sayer.feed, letter)
        self.assertEqual(state_of(sayer), before)
        self.assertEqual(sayer.end(), "BC")

    def test_a_thirteenth_letter(self):
        sayer = Sayer(BOOK)
        told = "".join(feed_all(sayer, "b" * 12))
        self.assertRaises(BadWord, sayer.feed, "a")
        self.assertRaises(BadWord, sayer.feed, "c")
        self.assertEqual(sayer.word(), "b" * 12)
        self.assertEqual(told + sayer.end(), "BC" * 12)

    def test_a_thirteenth_letter_is_refused_ahead_of_unsaid(self):
        rules = (("#", "a", "", ""), ("a", "a", "", ""), ("", "b", "b", ""))
        sayer = Sayer(("ab", rules, ()))
        feed_all(sayer, "a" * 10 + "ba")
        self.assertRaises(BadWord, sayer.feed, "a")
        sayer.back()
        sayer.back()
        sayer.back()
        feed_all(sayer, "ba")
        with self.assertRaises(Unsaid) as caught:
            sayer.feed("a")
        self.assertEqual(caught.exception.place, 9)

    def test_back_behind_twelve_letters_makes_room(self):
        sayer = Sayer(BOOK)
        feed_all(sayer, "b" * 12)
        self.assertEqual(sayer.back(), 2)
        self.assertEqual(sayer.feed("a"), "BC")
        self.assertEqual(sayer.end(), "BCA")


class UnsaidLetters(unittest.TestCase):
    def test_the_letter_is_not_taken(self):
        sayer = Sayer(STRICT)
        self.assertEqual(feed_all(sayer, "abb"), ["", "", "A"])
        before = state_of(sayer)
        self.assertEqual(sayer.feed("a"), "B")
        self.assertEqual(sayer.back(), 1)
        self.assertEqual(sayer.feed("b"), "B")
        for letter in "abab":
            with self.assertRaises(Unsaid) as caught:
                sayer.feed(letter)
            self.assertEqual(caught.exception.place, 2)
            self.assertEqual(sayer.word(), "abbb")
        self.assertEqual(sayer.back(), 1)
        self.assertEqual(state_of(sayer), before)

    def test_at_place_0(self):
        sayer = Sayer(("ab", (("", "a", "", "X"),), ()))
        feed_all(sayer, "ba")
        with self.assertRaises(Unsaid) as caught:
            sayer.feed("a")
        self.assertEqual(caught.exception.place, 0)
        self.assertEqual(sayer.word(), "ba")
        self.assertEqual([sayer.back(), sayer.back()], [0, 0])
        self.assertEqual(feed_all(sayer, "aaa"), ["", "", "X"])

    def test_a_refused_letter_is_not_taken_back(self):
        sayer = Sayer(("ab", (("", "a", "b", "X"), ("", "b", "", "")), ()))
        feed_all(sayer, "aa")
        self.assertRaises(Unsaid, sayer.feed, "b")
        self.assertEqual(sayer.back(), 0)
        self.assertEqual(sayer.word(), "a")
        self.assertEqual(feed_all(sayer, "bb"), ["", "X"])
        self.assertEqual(sayer.back(), 1)
        self.assertEqual(sayer.word(), "ab")

    def test_no_rules(self):
        sayer = Sayer(("ab", (), ()))
        self.assertEqual(sayer.end(), "")
        feed_all(sayer, "ab")
        with self.assertRaises(Unsaid) as caught:
            sayer.feed("a")
        self.assertEqual(caught.exception.place, 0)
        with self.assertRaises(Unsaid) as caught:
            sayer.end()
        self.assertEqual(caught.exception.place, 0)


class Back(unittest.TestCase):
    def test_how_many_sounds(self):
        sayer = Sayer(BOOK)
        feed_all(sayer, "abaaab")
        self.assertEqual([sayer.back() for _ in range(6)], [1, 1, 2, 3, 0, 0])
        self.assertEqual(sayer.word(), "")

    def test_no_letter(self):
        sayer = Sayer(BOOK)
        self.assertRaises(NoLetter, sayer.back)
        sayer.feed("a")
        sayer.back()
        self.assertRaises(NoLetter, sayer.back)
        self.assertEqual(sayer.word(), "")
        feed_all(sayer, "ab")
        sayer.end()
        self.assertRaises(NoLetter, sayer.back)
        self.assertEqual(feed_all(sayer, "aab"), ["", "", "T"])


class End(unittest.TestCase):
    def test_a_new_word_begins(self):
        sayer = Sayer(BOOK)
        for _ in range(3):
            self.assertEqual(feed_all(sayer, "bab"), ["", "", "BC"])
            self.assertEqual(sayer.end(), "ABC")
            self.assertEqual(sayer.word(), "")
            self.assertEqual(sayer.end(), "")

    def test_a_whole_word_behind_the_end(self):
        sayer = Sayer(BOOK)
        for _ in range(2):
            feed_all(sayer, "b" * 12)
            self.assertEqual(sayer.end(), "BCBC")

    def test_end_refused_leaves_all_as_it_was(self):
        sayer = Sayer(STRICT)
        feed_all(sayer, "abba")
        before = state_of(sayer)
        for _ in range(2):
            with self.assertRaises(Unsaid) as caught:
                sayer.end()
            self.assertEqual(caught.exception.place, 2)
            self.assertEqual(sayer.word(), "abba")
        self.assertEqual(state_of(sayer), before)
        self.assertEqual([sayer.back(), sayer.back()], [1, 1])
        self.assertEqual(sayer.end(), "AB")

    def test_the_last_place_of_several(self):
        sayer = Sayer(STRICT)
        feed_all(sayer, "aba")
        with self.assertRaises(Unsaid) as caught:
            sayer.end()
        self.assertEqual(caught.exception.place, 2)
        self.assertEqual(sayer.back(), 1)
        self.assertEqual(sayer.end(), "AB")

    def test_two_sayers_of_a_book_are_apart(self):
        one, other = Sayer(BOOK), Sayer(BOOK)
        feed_all(one, "aab")
        self.assertEqual(other.word(), "")
        self.assertRaises(NoLetter, other.back)
        self.assertEqual(one.end(), "BC")


class AgainstWalk(unittest.TestCase):
    """Every word of some books, against the rules that are walked the slow way."""

    def books(self):
        yield BOOK, 7
        yield STRICT, 7
        for number in range(24):
            letters, longest = (("ab", 7), ("abc", 5), ("abcd", 4))[number % 3]
            yield plain.some_book(number, letters, whole=number % 2 == 0, plain=0.4, exceptions=3), longest

    def fed(self, sayer, rules, word):
        """Feed a word, each letter's sounds being looked at; None if a letter is refused, else what was told."""
        steps, stuck = plain.walked(rules, word)
        told = []
        for at, letter in enumerate(word):
            if stuck is not None and at == stuck + 2:
                with self.assertRaises(Unsaid) as caught:
                    sayer.feed(letter)
                self.assertEqual(caught.exception.place, stuck)
                self.assertEqual(sayer.word(), word[:at])
                return None
            told.append(sayer.feed(letter))
            self.assertEqual(told[-1], "".join(rules[used][3] for place, used in steps if place == at - 2))
        return told

    def test_all_words(self):
        for book, longest in self.books():
            sayer = Sayer(book)
            for word in plain.words(book[0], longest):
                told = self.fed(sayer, book[1], word)
                _, stuck = plain.walked(book[1], word)
                if told is not None and stuck is None:
                    self.assertEqual("".join(told) + sayer.end(), plain.sounds(book[1], word))
                    continue
                if told is not None:
                    with self.assertRaises(Unsaid) as caught:
                        sayer.end()
                    self.assertEqual(caught.exception.place, stuck)
                while sayer.word():
                    sayer.back()

    def test_letters_taken_back_and_others_fed(self):
        for book, longest in self.books():
            sayer = Sayer(book)
            for word in plain.words(book[0], min(longest, 5)):
                told = self.fed(sayer, book[1], word)
                if told is None:
                    while sayer.word():
                        sayer.back()
                    continue
                # Back by each number of letters, on with others, and back to where it was.
                for size in range(len(word) + 1):
                    for at in reversed(range(size, len(word))):
                        self.assertEqual(sayer.back(), len(told[at]))
                    other = word[:size] + word[size:][::-1]
                    self.on(sayer, book[1], other, size)
                    while len(sayer.word()) > size:
                        sayer.back()
                    self.assertEqual([sayer.feed(letter) for letter in word[size:]], told[size:])
                while sayer.word():
                    sayer.back()

    def on(self, sayer, rules, word, size):
        """Feed a word's letters from size on, against the rules."""
        steps, stuck = plain.walked(rules, word)
        for at in range(size, len(word)):
            if stuck is not None and at >= stuck + 2:
                self.assertRaises(Unsaid, sayer.feed, word[at])
                return
            self.assertEqual(sayer.feed(word[at]), "".join(rules[used][3] for place, used in steps if place == at - 2))


if __name__ == "__main__":
    unittest.main()
