"""The way back from sounds to the words that are said so."""

from saylore.books import EDGE, check_sounds, checked_book, is_count
from saylore.errors import BadCount
from saylore.fitting import ending_sounds, sounds_of, taken

LONG = 5
LONGEST_WRITING = 7


def writings(book, sounds, *, long=LONG):
    """Return all words of up to long letters that are said so, the shorter ones first, then as texts ascend."""
    letters, rules, exceptions = checked_book(book)
    check_sounds(sounds)
    if not is_count(long, LONGEST_WRITING):
        raise BadCount("no number of letters, or too many letters")
    excepted = dict(exceptions)
    found = [word for word in ruled_writings(letters, rules, sounds, long) if word not in excepted]
    found.extend([word for word, told in exceptions if told == sounds and len(word) <= long])
    return sorted(sorted(found), key=len)


def ruled_writings(letters, rules, sounds, long):
    """Return all words of up to long letters that rules say so."""
    # Each beginning of a word stands here with its tail, and with the sounds that are sure by it.
    queue = [("", EDGE, "")]
    found = []
    at = 0
    while at < len(queue):
        beginning = queue[at]
        at += 1
        word, tail, sure = beginning
        rest = ending_sounds(rules, tail)
        if rest is not None and sure + rest == sounds:
            found.append(word)
        if len(word) < long:
            queue.extend(longer_beginnings(letters, rules, beginning, sounds))
    return found


def longer_beginnings(letters, rules, beginning, sounds):
    """Return a beginning with a letter more, for each letter by which it may still come to the sounds."""
    word, tail, sure = beginning
    longer = []
    for letter in letters:
        longer_tail, numbers = taken(rules, tail, letter)
        told = sure + sounds_of(rules, numbers)
        if longer_tail is not None and sounds.startswith(told):
            longer.append((word + letter, longer_tail, told))
    return longer
