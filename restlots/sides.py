"""Two sieves side by side, and a sieve as one bar."""

from math import gcd

from restlots.checks import GREATEST_MODULUS, MOST_RESTS, check_some
from restlots.errors import TooGreat, TooMany
from restlots.sieves import MOST_BARS, Sieve, lets_through


def both(one, other):
    """Return the sieve with the bars of one, and behind them those of other."""
    bars = one.bars + other.bars
    if len(bars) > MOST_BARS:
        raise TooMany("too many bars")
    return Sieve(bars)


def keeps_to(sieve, bar):
    """Tell whether all fitting numbers leave rests of the bar's lot."""
    modulus, lot = bar
    common = gcd(sieve.whole, modulus)
    agreeing = {}
    for rest in lot:
        agreeing[rest % common] = agreeing.get(rest % common, 0) + 1
    # The numbers of a class leave all rests that agree with it by the common measure: so the lot needs all of these.
    needed = modulus // common
    return all([agreeing.get(number % common, 0) == needed for number in sieve.classes])


def within(one, other):
    """Tell whether each number that fits one fits other."""
    return all([keeps_to(one, bar) for bar in other.bars])


def alike(one, other):
    """Tell whether the same numbers fit both."""
    return within(one, other) and within(other, one)


def first_outside(one, other):
    """Return the least number from 0 on that fits one and not other; there is one."""
    begin = 0
    # This ends soon: a lot that lacks a rest of a class, having at most 60, lacks one of its first 61 numbers.
    while True:
        for number in one.classes:
            if not lets_through(other, begin + number):
                return begin + number
        begin = begin + one.whole


def first_unlike(one, other):
    """Return the least number from 0 on that fits just one of both, None if there is none."""
    found = []
    if not within(one, other):
        found.append(first_outside(one, other))
    if not within(other, one):
        found.append(first_outside(other, one))
    return min(found, default=None)


def distance(one, other):
    """Return the least difference of a number that fits one and a number that fits other."""
    check_some(one)
    check_some(other)
    common = gcd(one.whole, other.whole)
    # Two classes have all differences that agree with theirs by the common measure, so they stand on a ring as long
    # as it; of the marks on it, the nearest two of both sides have no others between them.
    marks_of_one = [(number % common, 0) for number in one.classes]
    marks = sorted(marks_of_one + [(number % common, 1) for number in other.classes])
    return min([(after - place) % common
                for (place, side), (after, next_side) in zip(marks, marks[1:] + marks[:1]) if side != next_side])


def as_one(sieve):
    """Return the sieve of one bar, whose modulus is the whole, and its lot the classes."""
    if sieve.whole > GREATEST_MODULUS:
        raise TooGreat("the whole is no modulus")
    if len(sieve.classes) > MOST_RESTS:
        raise TooMany("too many classes for a lot")
    return Sieve(((sieve.whole, sieve.classes),))
