"""How rules are fitted to a word, the whole of it or letter by letter.

A tail is what must be known of a word's letters so far: the sign ahead of the first place that isn't settled yet,
and the letters from that place on. A word begins with the tail `#`.
"""

from saylore.books import EDGE

OWN = 1
SOUNDS = 3

# A place is settled once its letter and two more are there: no rule looks further. With the sign ahead these are four.
SETTLING = 4


def fits(rule, signs, at):
    """Tell whether rule fits at an index of signs, among which the signs ahead and behind stand, too."""
    ahead, own, behind, _ = rule
    past = at + len(own)
    if signs[at:past] != own:
        return False
    return (ahead == "" or signs[at - 1] in ahead) and (behind == "" or signs[past] in behind)


def first_fit(rules, signs, at):
    """Return the number of the first rule that fits at an index of signs, None if none does."""
    for number, rule in enumerate(rules):
        if fits(rule, signs, at):
            return number
    return None


def steps_of(rules, tail):
    """Say a word's tail up to its end.

    Return the steps (place, rule's number), places being counted from the tail's first letter on,
    and the place at which no rule fits, None if the end was reached.
    """
    signs = tail + EDGE
    steps = []
    at = 1
    while at < len(signs) - 1:
        number = first_fit(rules, signs, at)
        if number is None:
            return steps, at - 1
        steps.append((at - 1, number))
        at += len(rules[number][OWN])
    return steps, None


def taken(rules, tail, letter):
    """Return the tail with a letter more, and the numbers of the rules that are settled by it.

    The tail is None from the letter on by which a place is to be settled at which no rule fits.
    """
    if tail is None:
        return None, []
    signs = tail + letter
    if len(signs) < SETTLING:
        return signs, []
    number = first_fit(rules, signs, 1)
    if number is None:
        return None, []
    return signs[len(rules[number][OWN]):], [number]


def ending(rules, tail):
    """Return the numbers of the rules that say a tail up to the word's end, None if they don't."""
    if tail is None:
        return None
    steps, stuck = steps_of(rules, tail)
    if stuck is not None:
        return None
    return numbers_of(steps)


def ending_sounds(rules, tail):
    """Return the sounds by which rules say a tail up to the word's end, None if they don't."""
    numbers = ending(rules, tail)
    if numbers is None:
        return None
    return sounds_of(rules, numbers)


def word_sounds(rules, word):
    """Return the sounds by which rules say a whole word, None if they don't."""
    return ending_sounds(rules, EDGE + word)


def numbers_of(steps):
    """Return the rules' numbers of steps."""
    return [number for _, number in steps]


def sounds_of(rules, numbers):
    """Return the sounds of the rules of these numbers, in turn."""
    return "".join([rules[number][SOUNDS] for number in numbers])
