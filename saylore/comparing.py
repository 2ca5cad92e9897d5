"""What holds of all words, of whatever length."""

from saylore.books import checked_book, is_count
from saylore.errors import BadCount, OtherLetters
from saylore.fitting import word_sounds
from saylore.hunts import PartedHunt, UnsaidHunt, UseHunt, least_word


def parted(one, other):
    """Return the least word that two books don't say the same, None if there is none."""
    checked_book(one)
    checked_book(other)
    if one[0] != other[0]:
        raise OtherLetters("the books are of other letters")
    return least_word(one[0], PartedHunt(one, other))


def use(book, number):
    """Return the least word that rules say, and by the rule of a number, None if there is none."""
    letters, rules, _ = checked_book(book)
    if not is_count(number, len(rules) - 1):
        raise BadCount("there is no rule of that number")
    return least_word(letters, UseHunt(rules, number))


def unsaid(book):
    """Return the least word that rules don't say, None if there is none."""
    letters, rules, _ = checked_book(book)
    return least_word(letters, UnsaidHunt(rules))


def idle(book):
    """Return the numbers of all rules by which no word is said."""
    letters, rules, _ = checked_book(book)
    return [number for number in range(len(rules)) if least_word(letters, UseHunt(rules, number)) is None]


def free(book):
    """Return the numbers of rules that may change places with the next one, all words being said as before."""
    letters, rules, _ = checked_book(book)
    found = []
    for number in range(len(rules) - 1):
        hunt = PartedHunt((letters, rules, ()), (letters, swapped(rules, number), ()))
        if least_word(letters, hunt) is None:
            found.append(number)
    return found


def needless(book):
    """Return the words of exceptions that rules say the same."""
    _, rules, exceptions = checked_book(book)
    return [word for word, sounds in exceptions if word_sounds(rules, word) == sounds]


def swapped(rules, number):
    """Return rules with that of a number and the next one in each other's place."""
    return rules[:number] + (rules[number + 1], rules[number]) + rules[number + 2:]
