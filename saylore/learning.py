"""Which rules say samples of words so."""

from itertools import combinations

from saylore.books import check_letters, check_rules, is_exception
from saylore.errors import BadSamples
from saylore.fitting import word_sounds

MOST_SAMPLES = 12


def least(letters, rules, samples):
    """Return the numbers of the fewest rules that say all samples so, None if there are none that do."""
    check_all(letters, rules, samples)
    # Of lists of the same length, combinations come as lists ascend, so the first that is found is the one to tell.
    for many in range(len(rules) + 1):
        for numbers in combinations(range(len(rules)), many):
            if are_said([rules[number] for number in numbers], samples):
                return list(numbers)
    return None


def blamed(letters, rules, samples):
    """Return the numbers of samples that rules don't say so."""
    check_all(letters, rules, samples)
    return [number for number, sample in enumerate(samples) if not is_said(rules, sample)]


def check_all(letters, rules, samples):
    """BadBook if these are no letters or no rules of a book, then BadSamples if these are no samples."""
    check_letters(letters)
    check_rules(letters, rules)
    check_samples(letters, samples)


def check_samples(letters, samples):
    """BadSamples with the number of the first of samples that can't be."""
    if not isinstance(samples, list):
        raise BadSamples(0)
    for number, sample in enumerate(samples):
        if number == MOST_SAMPLES or not is_exception(letters, sample):
            raise BadSamples(number)


def are_said(rules, samples):
    """Tell whether rules say all samples so."""
    return all(is_said(rules, sample) for sample in samples)


def is_said(rules, sample):
    """Tell whether rules say a sample so."""
    word, sounds = sample
    return word_sounds(rules, word) == sounds
