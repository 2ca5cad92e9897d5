"""How a word is said letter by letter."""

from saylore.books import EDGE, LONGEST_WORD, checked_book, is_text
from saylore.errors import BadWord, NoLetter, Unsaid
from saylore.fitting import numbers_of, sounds_of, steps_of, taken


class Sayer:
    """Says words by a book's rules, and tells sounds as soon as they are sure."""

    def __init__(self, book):
        letters, rules, _ = checked_book(book)
        self._letters = letters
        self._rules = rules
        self._begin()

    def feed(self, letter):
        """Take a letter more, and return the sounds that are sure by it."""
        if not is_text(letter, self._letters, 1, 1) or len(self._word) == LONGEST_WORD:
            raise BadWord("no letter of the book, or a thirteenth one")
        tail, numbers = taken(self._rules, self._tail, letter)
        if tail is None:
            raise Unsaid(self._place())
        sounds = sounds_of(self._rules, numbers)
        self._past.append((self._tail, len(sounds)))
        self._word += letter
        self._tail = tail
        return sounds

    def back(self):
        """Take the last letter back, and return how many sounds it had made sure."""
        if not self._past:
            raise NoLetter("there is no letter to take back")
        self._tail, many = self._past.pop()
        self._word = self._word[:-1]
        return many

    def end(self):
        """Return the sounds of all places that aren't settled yet, and begin a new word."""
        steps, stuck = steps_of(self._rules, self._tail)
        if stuck is not None:
            raise Unsaid(self._place() + stuck)
        self._begin()
        return sounds_of(self._rules, numbers_of(steps))

    def word(self):
        """Return the letters so far."""
        return self._word

    def _begin(self):
        """Stand ahead of a new word's first letter."""
        self._word = ""
        self._tail = EDGE
        # For each letter: the tail ahead of it, and how many sounds it made sure.
        self._past = []

    def _place(self):
        """Return the first place that isn't settled yet."""
        return len(self._word) - (len(self._tail) - 1)
