"""How the least word of some kind is found among all words, of whatever length.

A hunt reads words letter by letter. Its state is a pair (where, lead): where tells all that the rest of a word can
depend on, but for the lead, by which two books' sounds differ so far.
"""

from saylore.books import EDGE
from saylore.fitting import ending, ending_sounds, sounds_of, taken, word_sounds

# The lead where both books' sounds are the same so far, and that of a hunt which compares none.
EVEN = ("", "")

# The lead where sounds differ for good. Its signs are no sounds and unlike, so nothing that follows makes them even.
UNLIKE = ("<", ">")

# Of two unlike leads at one where, any rest that both books say parts the books behind one of them at least, and a
# rest that just one says parts them behind each. Both were reached by lesser words than a third one, so the least word
# never goes by a third.
LEADS = 2


def least_word(letters, hunt):
    """Return the least word that hunt finds, None if there is none."""
    # Words enter the queue from the least on, so the first that is found is the least.
    queue = [("", hunt.start())]
    leads = {}
    at = 0
    while at < len(queue):
        word, state = queue[at]
        at += 1
        if hunt.is_found(state):
            return word
        for letter in letters:
            reached = hunt.after(state, letter)
            if keep(leads, reached):
                queue.append((word + letter, reached))
    return None


def keep(leads, state):
    """Note a state's lead at its where, and tell whether it must be followed."""
    where, lead = state
    there = leads.setdefault(where, [])
    if lead in there or len(there) == LEADS:
        return False
    there.append(lead)
    return True


def lead_of(one, other):
    """Return the lead of two texts of sounds: what is left of each without what is the same."""
    if one.startswith(other):
        return one[len(other):], ""
    if other.startswith(one):
        return "", other[len(one):]
    return UNLIKE


def stems_of(pairs):
    """Return a dict of all texts with which the words of pairs begin."""
    return {word[:size]: True for word, _ in pairs for size in range(len(word) + 1)}


class UnsaidHunt:
    """Finds words that rules don't say."""

    def __init__(self, rules):
        self._rules = rules

    def start(self):
        """Return the state ahead of all letters."""
        return EDGE, EVEN

    def after(self, state, letter):
        """Return the state behind a letter more."""
        tail, _ = taken(self._rules, state[0], letter)
        return tail, EVEN

    def is_found(self, state):
        """Tell whether the word that ends here isn't said."""
        return ending(self._rules, state[0]) is None


class UseHunt:
    """Finds words that rules say, and by the rule of one number."""

    def __init__(self, rules, number):
        self._rules = rules
        self._number = number

    def start(self):
        """Return the state ahead of all letters."""
        return (EDGE, False), EVEN

    def after(self, state, letter):
        """Return the state behind a letter more."""
        tail, is_used = state[0]
        tail, numbers = taken(self._rules, tail, letter)
        return (tail, is_used or self._number in numbers), EVEN

    def is_found(self, state):
        """Tell whether the word that ends here is said, and by the rule."""
        tail, is_used = state[0]
        numbers = ending(self._rules, tail)
        return numbers is not None and (is_used or self._number in numbers)


class PartedHunt:
    """Finds words that two books of the same letters say otherwise, or that just one says."""

    def __init__(self, one, other):
        self._one_rules = one[1]
        self._other_rules = other[1]
        self._one_exceptions = dict(one[2])
        self._other_exceptions = dict(other[2])
        self._stems = stems_of(one[2] + other[2])

    def start(self):
        """Return the state ahead of all letters."""
        return (EDGE, EDGE, ""), EVEN

    def after(self, state, letter):
        """Return the state behind a letter more."""
        (one_tail, other_tail, stem), (one_lead, other_lead) = state
        one_tail, one_numbers = taken(self._one_rules, one_tail, letter)
        other_tail, other_numbers = taken(self._other_rules, other_tail, letter)
        one_lead += sounds_of(self._one_rules, one_numbers)
        other_lead += sounds_of(self._other_rules, other_numbers)
        where = (one_tail, other_tail, self._longer_stem(stem, letter))
        return where, lead_of(one_lead, other_lead)

    def is_found(self, state):
        """Tell whether the books don't say the word that ends here the same."""
        (one_tail, other_tail, stem), (one_lead, other_lead) = state
        if stem in self._one_exceptions or stem in self._other_exceptions:
            return self._is_exception_parted(stem)
        one_rest = ending_sounds(self._one_rules, one_tail)
        other_rest = ending_sounds(self._other_rules, other_tail)
        if one_rest is None or other_rest is None:
            return one_rest != other_rest
        return one_lead + one_rest != other_lead + other_rest

    def _longer_stem(self, stem, letter):
        """Return the whole word so far while exceptions may still come, else None."""
        if stem is None or stem + letter not in self._stems:
            return None
        return stem + letter

    def _is_exception_parted(self, word):
        """Tell whether the books don't say the same word alike, of which one at least has an exception."""
        one_sounds = self._one_exceptions.get(word)
        if one_sounds is None:
            one_sounds = word_sounds(self._one_rules, word)
        other_sounds = self._other_exceptions.get(word)
        if other_sounds is None:
            other_sounds = word_sounds(self._other_rules, word)
        return one_sounds != other_sounds
