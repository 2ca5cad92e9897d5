"""Desks, at which books are changed."""

from saylore.books import (
    EXCEPTIONS, MOST_EXCEPTIONS, MOST_RULES, RULES, check_excepted, check_sounds, checked_book, is_count, is_rule
)
from saylore.errors import BadBook, BadCount, BadDeed, Halted, NoException, SayError
from saylore.fitting import word_sounds
from saylore.saying import said

# How many things each deed is a tuple of: its word, and what is handed in.
SIZES = {"put": 3, "drop": 2, "move": 3, "learn": 3, "forget": 2}


class Desk:
    """Holds a book, and changes it."""

    def __init__(self, book):
        # Each change puts another tuple here, so a book that was told, or is to be had again, stays as it is.
        self._book = checked_book(book)
        self._told = []
        self._idle = True

    def book(self):
        """Return the book as it stands."""
        return self._book

    def say(self, word):
        """Return the sounds of word: as an exception says, else by rules."""
        return said(self._book, word)

    def put(self, place, rule):
        """Put a rule in at a place."""
        letters, rules, exceptions = self._book
        check_place(place, len(rules))
        if len(rules) == MOST_RULES or not is_rule(letters, rule):
            raise BadBook(RULES, place)
        self._book = (letters, with_rule(rules, place, rule), exceptions)

    def drop(self, place):
        """Take the rule of a place out, and return it."""
        letters, rules, exceptions = self._book
        check_place(place, len(rules) - 1)
        self._book = (letters, without_rule(rules, place), exceptions)
        return rules[place]

    def move(self, place, other):
        """Take the rule of a place out and put it in again, so that it stands at the other place."""
        letters, rules, exceptions = self._book
        check_place(place, len(rules) - 1)
        check_place(other, len(rules) - 1)
        self._book = (letters, with_rule(without_rule(rules, place), other, rules[place]), exceptions)

    def learn(self, word, sounds):
        """Have word said so, and return whether it takes an exception."""
        letters, rules, exceptions = self._book
        check_excepted(letters, word)
        check_sounds(sounds)
        others = without_word(exceptions, word)
        if word_sounds(rules, word) == sounds:
            self._book = (letters, rules, others)
            return False
        if len(others) == MOST_EXCEPTIONS:
            raise BadBook(EXCEPTIONS, MOST_EXCEPTIONS)
        self._book = (letters, rules, tuple(sorted([*others, (word, sounds)])))
        return True

    def forget(self, word):
        """Take the exception of a word out, and return its sounds."""
        letters, rules, exceptions = self._book
        for written, sounds in exceptions:
            if written == word:
                self._book = (letters, rules, without_word(exceptions, word))
                return sounds
        raise NoException("the book has no exception of that word")

    def batch(self, deeds, *, keep=True):
        """Do deeds in turn, and return what each told; where one is refused, keep those ahead of it or none."""
        check_deeds(deeds)
        self._told.append("begun")
        self._idle = False
        try:
            return self._all_done(deeds, keep)
        finally:
            self._told.append("ended")
            self._idle = True

    def told(self):
        """Return "begun", the words of the deeds that were done, and "ended", of each batch so far."""
        return list(self._told)

    def is_idle(self):
        """Tell whether no batch is under way."""
        return self._idle

    def _all_done(self, deeds, keep):
        """Do deeds in turn, and return what each told; Halted where one is refused."""
        ahead = self._book
        answers = []
        for number, deed in enumerate(deeds):
            try:
                answers.append(self._done(deed))
            except SayError as refusal:
                if keep is True:
                    raise Halted(number, number) from refusal
                self._book = ahead
                raise Halted(number, 0) from refusal
            self._told.append(deed[0])
        return answers

    def _done(self, deed):
        """Do a deed, and return what it told."""
        match deed:
            case ("put", place, rule):
                return self.put(place, rule)
            case ("drop", place):
                return self.drop(place)
            case ("move", place, other):
                return self.move(place, other)
            case ("learn", word, sounds):
                return self.learn(word, sounds)
            case ("forget", word):
                return self.forget(word)


def check_place(place, most):
    """BadCount if this is no place from 0 to most."""
    if not is_count(place, most):
        raise BadCount("there is no such place")


def check_deeds(deeds):
    """BadDeed with the number of the first of deeds that can't be."""
    if not isinstance(deeds, list):
        raise BadDeed(0)
    for number, deed in enumerate(deeds):
        if not is_deed(deed):
            raise BadDeed(number)


def is_deed(deed):
    """Tell whether deed is a tuple of a deed's word and as many things as it takes."""
    if not isinstance(deed, tuple) or len(deed) == 0 or not isinstance(deed[0], str):
        return False
    return SIZES.get(deed[0]) == len(deed)


def with_rule(rules, place, rule):
    """Return rules with one more at a place."""
    return rules[:place] + (rule,) + rules[place:]


def without_rule(rules, place):
    """Return rules without the one at a place."""
    return rules[:place] + rules[place + 1:]


def without_word(exceptions, word):
    """Return exceptions without that of a word."""
    return tuple([pair for pair in exceptions if pair[0] != word])
