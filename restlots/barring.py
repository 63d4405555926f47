"""Bars by which no number fits, and papers that tell whether one does."""

from itertools import combinations
from math import gcd

from restlots.checks import is_ascending, is_integer, is_pair
from restlots.errors import TooMany
from restlots.lots import only, others, smallest_sets
from restlots.sieves import lets_through

MOST_ROWS = 300


def smallest_barring(sieve):
    """Return the ascending list of all smallest sets of bars by which, alone, no number fits; [] if some fits."""
    return smallest_sets(sieve, lambda indexes: only(sieve, indexes).classes == ())


def freeing(sieve):
    """Return the ascending list of all smallest sets of bars without which some number fits; [()] if one does."""
    return smallest_sets(sieve, lambda indexes: only(sieve, others(sieve, indexes)).classes != ())


def choices_for(sieve, indexes):
    """Return the ascending list of all choices for the bars with these indexes."""
    choices = [()]
    for index in indexes:
        _, lot = sieve.bars[index]
        choices = [choice + (rest,) for choice in choices for rest in lot]
    return choices


def clashing_pairs(sieve, indexes, choice):
    """Return the ascending list of all pairs of these bars at which the rests of the choice clash."""
    moduli = [sieve.bars[index][0] for index in indexes]
    told = list(zip(indexes, moduli, choice))
    return [(first, second) for (first, modulus, rest), (second, next_modulus, next_rest) in combinations(told, 2)
            if (rest - next_rest) % gcd(modulus, next_modulus) != 0]


def paper(sieve):
    """Return the paper with the least fitting number from 0 on, or else the one with the least set that bars all."""
    if sieve.classes != ():
        return ("number", sieve.classes[0])
    indexes = smallest_barring(sieve)[0]
    choices = choices_for(sieve, indexes)
    if len(choices) > MOST_ROWS:
        raise TooMany("too many rows of a paper")
    # Rests of which no two clash are left by one number, so here each choice has a pair.
    rows = [(choice, clashing_pairs(sieve, indexes, choice)[0]) for choice in choices]
    return ("clashes", (indexes, rows))


def is_choice(value, choice):
    """Tell whether any value is this choice; True and False are no rests, though they equal 1 and 0."""
    return isinstance(value, tuple) and all([is_integer(rest) for rest in value]) and value == choice


def is_row(sieve, indexes, choice, value):
    """Tell whether any value is a row of a paper for this choice."""
    if not is_pair(value):
        return False
    told, pair = value
    if not is_choice(told, choice) or not is_ascending(pair, len(sieve.bars)):
        return False
    return pair in clashing_pairs(sieve, indexes, choice)


def shows_clashes(sieve, value):
    """Tell whether any value is the second part of a paper of clashes."""
    if not is_pair(value):
        return False
    indexes, rows = value
    if not is_ascending(indexes, len(sieve.bars)) or not isinstance(rows, list):
        return False
    choices = choices_for(sieve, indexes)
    if len(rows) != len(choices):
        return False
    return all([is_row(sieve, indexes, choice, row) for choice, row in zip(choices, rows)])


def shows(sieve, value):
    """Tell whether any value is a paper."""
    if not is_pair(value):
        return False
    word, told = value
    if word == "number":
        return is_integer(told) and lets_through(sieve, told)
    return word == "clashes" and shows_clashes(sieve, told)
