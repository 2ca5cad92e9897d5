"""Books as texts."""

from saylore.books import checked_book
from saylore.errors import BadText

# What stands in a row for an empty text.
EMPTY = "-"

# How many words each row has, the word ahead among them.
SIZES = {"letters": 2, "rule": 5, "word": 3}

# Which words may stand ahead in a row behind another row, by the word that is ahead there; the first row stands
# behind none.
FOLLOWING = {"": ("letters",), "letters": ("rule", "word"), "rule": ("rule", "word"), "word": ("word",)}


def written(book):
    """Return a book as a text."""
    letters, rules, exceptions = checked_book(book)
    rows = [("letters", letters)]
    rows.extend([("rule", *rule) for rule in rules])
    rows.extend([("word", *pair) for pair in exceptions])
    return "\n".join([" ".join([marked(word) for word in row]) for row in rows])


def read(text):
    """Return the book that a text is of."""
    if not isinstance(text, str):
        raise BadText(0)
    rows = [row.split(" ") for row in text.split("\n")]
    check_rows(rows)
    return checked_book((unmarked(rows[0][1]), things_of(rows, "rule"), things_of(rows, "word")))


def check_rows(rows):
    """BadText with the number of the first of rows that can't be."""
    last = ""
    for number, words in enumerate(rows):
        if not is_row(words) or words[0] not in FOLLOWING[last]:
            raise BadText(number)
        last = words[0]


def is_row(words):
    """Tell whether these can be the words of a row."""
    return "" not in words and SIZES.get(words[0]) == len(words)


def things_of(rows, kind):
    """Return a tuple of what stands in each row of a kind, behind the word ahead."""
    return tuple([tuple([unmarked(word) for word in row[1:]]) for row in rows if row[0] == kind])


def marked(text):
    """Return a text as a row's word."""
    if text == "":
        return EMPTY
    return text


def unmarked(word):
    """Return a row's word as the text that it stands for."""
    if word == EMPTY:
        return ""
    return word
