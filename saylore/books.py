"""What a book is, what its words are, and how what is none is refused."""

from saylore.errors import BadBook, BadSounds, BadWord

SMALL = "abcdefghijklmnopqrstuvwxyz"
CAPITALS = "ABCDEFGHIJKLMNOPQRSTUVWXYZ"
EDGE = "#"

NO_BOOK = -1
LETTERS = 0
RULES = 1
EXCEPTIONS = 2

MOST_RULES = 12
MOST_EXCEPTIONS = 8
LONGEST_WORD = 12
LONGEST_EXCEPTION = 8
LONGEST_RULE_SOUNDS = 3
LONGEST_SOUNDS = 36


def checked_book(book):
    """Return book as it is; BadBook if it can't be one."""
    if not isinstance(book, tuple) or len(book) != 3:
        raise BadBook(NO_BOOK, 0)
    letters, rules, exceptions = book
    check_letters(letters)
    check_rules(letters, rules)
    check_exceptions(letters, exceptions)
    return book


def check_letters(letters):
    """BadBook if these are no letters of a book."""
    if not is_text(letters, SMALL, 2, 4) or not is_rising(letters):
        raise BadBook(LETTERS, 0)


def check_rules(letters, rules):
    """BadBook with the number of the first of rules that can't be."""
    if not isinstance(rules, tuple):
        raise BadBook(RULES, 0)
    for number, rule in enumerate(rules):
        if number == MOST_RULES or not is_rule(letters, rule):
            raise BadBook(RULES, number)


def check_exceptions(letters, exceptions):
    """BadBook with the number of the first of exceptions that can't be."""
    if not isinstance(exceptions, tuple):
        raise BadBook(EXCEPTIONS, 0)
    last = ""
    for number, pair in enumerate(exceptions):
        if number == MOST_EXCEPTIONS or not is_exception(letters, pair) or pair[0] <= last:
            raise BadBook(EXCEPTIONS, number)
        last = pair[0]


def check_word(letters, word):
    """BadWord if this is no word of the letters."""
    if not is_text(word, letters, 0, LONGEST_WORD):
        raise BadWord("no word of the book's letters, or too long a one")


def check_excepted(letters, word):
    """BadWord if an exception can't be of this word."""
    if not is_excepted(letters, word):
        raise BadWord("no word of the book's letters, or none that an exception can be of")


def check_sounds(sounds):
    """BadSounds if these are no sounds that a word can have."""
    if not is_sounds(sounds):
        raise BadSounds("no text of sounds, or too long a one")


def is_rule(letters, rule):
    """Tell whether rule can be one of a book of these letters."""
    if not isinstance(rule, tuple) or len(rule) != 4:
        return False
    ahead, own, behind, sounds = rule
    return (
        is_beside(letters, ahead)
        and is_text(own, letters, 1, 2)
        and is_beside(letters, behind)
        and is_text(sounds, CAPITALS, 0, LONGEST_RULE_SOUNDS)
    )


def is_beside(letters, signs):
    """Tell whether signs can be what a rule wants ahead or behind."""
    return is_text(signs, EDGE + letters, 0, len(letters) + 1) and is_rising(signs)


def is_exception(letters, pair):
    """Tell whether pair can be an exception of a book of these letters."""
    if not isinstance(pair, tuple) or len(pair) != 2:
        return False
    word, sounds = pair
    return is_excepted(letters, word) and is_sounds(sounds)


def is_excepted(letters, word):
    """Tell whether word can be that of an exception."""
    return is_text(word, letters, 1, LONGEST_EXCEPTION)


def is_sounds(sounds):
    """Tell whether sounds can be those of a word."""
    return is_text(sounds, CAPITALS, 0, LONGEST_SOUNDS)


def is_text(text, signs, least, most):
    """Tell whether text is one of least to most signs, all of them among signs."""
    if not isinstance(text, str) or not least <= len(text) <= most:
        return False
    return all([sign in signs for sign in text])


def is_rising(text):
    """Tell whether each sign of text is more than the one ahead of it."""
    return all([text[at - 1] < text[at] for at in range(1, len(text))])


def is_count(number, most):
    """Tell whether number is a whole one from 0 to most."""
    # True and False are integers for Python, but no numbers here.
    if not isinstance(number, int) or isinstance(number, bool):
        return False
    return 0 <= number <= most
