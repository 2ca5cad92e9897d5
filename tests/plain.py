"""The document's promises done the slow way, to hold the program's answers against.

Nothing here is imported from the program. Words are tried one by one, and may have any length.
"""

import itertools
import random


def words(letters, longest):
    """All words of up to so many letters, the shorter ones first, then as texts ascend."""
    for size in range(longest + 1):
        for signs in itertools.product(letters, repeat=size):
            yield "".join(signs)


def fits(rule, word, place):
    ahead, own, behind, _ = rule
    past = place + len(own)
    before = word[place - 1] if place > 0 else "#"
    after = word[past] if past < len(word) else "#"
    if word[place:past] != own:
        return False
    return (not ahead or before in ahead) and (not behind or after in behind)


def walked(rules, word):
    """(steps, None), or (steps so far, the place at which no rule fits)."""
    steps = []
    place = 0
    while place < len(word):
        fitting = [number for number, rule in enumerate(rules) if fits(rule, word, place)]
        if not fitting:
            return steps, place
        steps.append((place, fitting[0]))
        place += len(rules[fitting[0]][1])
    return steps, None


def sounds(rules, word):
    """What rules say, or None."""
    steps, stuck = walked(rules, word)
    if stuck is not None:
        return None
    return "".join(rules[number][3] for _, number in steps)


def said(book, word):
    """What a book says, exceptions first, or None."""
    return dict(book[2]).get(word, sounds(book[1], word))


def least(letters, longest, is_wanted):
    for word in words(letters, longest):
        if is_wanted(word):
            return word
    return None


def use(book, number, longest):
    def is_wanted(word):
        steps, stuck = walked(book[1], word)
        return stuck is None and number in [used for _, used in steps]

    return least(book[0], longest, is_wanted)


def unsaid(book, longest):
    return least(book[0], longest, lambda word: sounds(book[1], word) is None)


def parted(one, other, longest):
    return least(one[0], longest, lambda word: said(one, word) != said(other, word))


def writings(book, told, longest):
    return [word for word in words(book[0], longest) if said(book, word) == told]


def least_rules(rules, samples):
    """All lists of numbers are tried, and of those that say all samples so the shortest, then first one is taken."""
    good = []
    for flags in itertools.product((False, True), repeat=len(rules)):
        numbers = [number for number, is_in in enumerate(flags) if is_in]
        some = [rules[number] for number in numbers]
        if all(sounds(some, word) == told for word, told in samples):
            good.append((len(numbers), numbers))
    return min(good)[1] if good else None


def blamed(rules, samples):
    return [number for number, (word, told) in enumerate(samples) if sounds(rules, word) != told]


def swapped(book, number):
    rules = list(book[1])
    rules[number], rules[number + 1] = rules[number + 1], rules[number]
    return book[0], tuple(rules), ()


def some_signs(chance, signs, likely):
    """A rising text of some of the signs, none of them more often than not."""
    if chance.random() < likely:
        return ""
    return "".join(sign for sign in signs if chance.random() < 0.5)


def some_rule(chance, letters, plain):
    own = "".join(chance.choice(letters) for _ in range(chance.choice((1, 1, 2))))
    told = "".join(chance.choice("XY") for _ in range(chance.choice((0, 1, 1, 2, 3))))
    return (
        some_signs(chance, "#" + letters, plain),
        own,
        some_signs(chance, "#" + letters, plain),
        told,
    )


def some_book(number, letters, *, plain=0.5, whole=True, exceptions=0):
    """A book that is always the same one for a number. A whole one has a last rule for each letter."""
    chance = random.Random(number)
    rules = [some_rule(chance, letters, plain) for _ in range(chance.randint(0, 12 - len(letters)))]
    if whole:
        rules += [("", letter, "", chance.choice(("X", "Y", ""))) for letter in letters]
    known = {}
    for _ in range(exceptions):
        word = "".join(chance.choice(letters) for _ in range(chance.randint(1, 4)))
        told = sounds(rules, word)
        known[word] = told if told is not None and chance.random() < 0.5 else chance.choice("XY")
    return letters, tuple(rules), tuple(sorted(known.items()))


def changed(book, number):
    """The same book with one rule's sounds or surroundings, or two rules' places, otherwise."""
    chance = random.Random(number)
    rules = list(book[1])
    at = chance.randrange(len(rules))
    ahead, own, behind, told = rules[at]
    kind = chance.randrange(4)
    if kind == 0:
        rules[at] = (ahead, own, behind, chance.choice(("", "X", "Y", "XY")))
    elif kind == 1:
        rules[at] = (some_signs(chance, "#" + book[0], 0.3), own, behind, told)
    elif kind == 2:
        rules[at] = (ahead, own, some_signs(chance, "#" + book[0], 0.3), told)
    else:
        rules = rules[at:] + rules[:at]
    return book[0], tuple(rules), book[2]


def chain(last="Z", many=12):
    """Rules of two letters each that say one word alone, of twice as many letters, besides the empty one.

    Each rule wants the last letter of the one ahead, and the first letter of the one behind. No pair of such letters
    comes twice, so each rule can only be followed by the next one.
    """
    links = [first + second for first in "abcd" for second in "abcd"][:many - 1]
    begins = ["a"] + [link[1] for link in links]
    ends = [link[0] for link in links] + ["d"]
    rules = []
    for at in range(many):
        ahead = ends[at - 1] if at > 0 else "#"
        behind = begins[at + 1] if at < many - 1 else "#"
        rules.append((ahead, begins[at] + ends[at], behind, "Z" if at < many - 1 else last))
    return "abcd", tuple(rules), ()


def chain_word(many=12):
    return "".join(rule[1] for rule in chain(many=many)[1])


def tight_book(number, letters):
    """A book whose rules want so much beside them that few words are said, and so answers are long."""
    chance = random.Random(number)
    rules = []
    for _ in range(12):
        own = "".join(chance.choice(letters) for _ in range(chance.choice((1, 2, 2))))
        ahead, behind = (chance.choice(letters) if chance.random() < 0.8 else "#" for _ in range(2))
        if chance.random() < 0.3:
            ahead = some_signs(chance, "#" + letters, 0)
        rules.append((ahead, own, behind, chance.choice(("", "", "X", "X", "XX"))))
    return letters, tuple(rules), ()


def may_be_said(rules, word):
    """Whether a word that begins so may be said yet: no place is settled at which none fits."""
    _, stuck = walked(rules, word)
    return stuck is None or stuck + 2 > len(word) - 1


def parted_far(one, other, longest):
    """As parted for books without exceptions, but only words that may be said by one are gone on with."""
    row = [""]
    for _ in range(longest + 1):
        for word in row:
            if sounds(one[1], word) != sounds(other[1], word):
                return word
        row = [word + letter for word in row for letter in one[0]]
        row = [word for word in row if may_be_said(one[1], word) or may_be_said(other[1], word)]
    return None
