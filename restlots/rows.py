"""Fitting numbers that come by one step, and how many leave each rest by a modulus."""

from math import gcd

from restlots.checks import check_modulus, check_some, integer_within
from restlots.errors import BadNumber
from restlots.stretches import longest

GREATEST_STEP = 10 ** 30
GREATEST_COUNTED_BY = 200


def check_step(value):
    """Raise BadNumber for any value that is no step."""
    if not integer_within(value, 1, GREATEST_STEP):
        raise BadNumber("no step")


def at_distance(sieve, step):
    """Return how many classes fit when they are greater by the step, too."""
    check_step(step)
    known = {number: True for number in sieve.classes}
    return len([number for number in sieve.classes if (number + step) % sieve.whole in known])


def row_from(known, whole, begin, step):
    """Return how many of the known classes come one behind the other by the step, from one on; the row has an end."""
    many = 1
    while (begin + many * step) % whole in known:
        many += 1
    return many


def longest_row(sieve, step):
    """Return the tuple (how many, begin) of the longest row of fitting numbers by the step, None if it has no end."""
    check_step(step)
    check_some(sieve)
    known = {number: True for number in sieve.classes}
    begins = [number for number in sieve.classes if (number - step) % sieve.whole not in known]
    found = [(row_from(known, sieve.whole, begin, step), begin) for begin in begins]
    # A class that no row with a begin comes to stands in a ring of classes, which has no end.
    if sum([many for many, _ in found]) < len(sieve.classes):
        return None
    return longest(found)


def counts_by(sieve, modulus):
    """Return the list, for each rest, of how many numbers below lcm(whole, modulus), from 0 on, fit and leave it."""
    check_modulus(modulus, GREATEST_COUNTED_BY)
    common = gcd(sieve.whole, modulus)
    often = [0] * common
    for number in sieve.classes:
        often[number % common] += 1
    # A class and a rest that agree by the common measure are left by one number there, others by none.
    return [often[rest % common] for rest in range(modulus)]
