"""How a word is said, place by place."""

from saylore.books import EDGE, check_word, checked_book
from saylore.errors import Unsaid
from saylore.fitting import numbers_of, sounds_of, steps_of


def walk(book, word):
    """Return (place, rule's number) of each rule by which word is said, in turn."""
    letters, rules, _ = checked_book(book)
    check_word(letters, word)
    return walked(rules, word)


def said(book, word):
    """Return the sounds of word: as an exception says, else by rules."""
    letters, rules, exceptions = checked_book(book)
    check_word(letters, word)
    for written, sounds in exceptions:
        if written == word:
            return sounds
    return sounds_of(rules, numbers_of(walked(rules, word)))


def walked(rules, word):
    """Return the steps by which rules say word; Unsaid with the first place at which none fits."""
    steps, stuck = steps_of(rules, EDGE + word)
    if stuck is not None:
        raise Unsaid(stuck)
    return steps
