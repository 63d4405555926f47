"""Bars and rests that can be left out, and rests that are sure."""

from itertools import combinations
from math import gcd

from restlots.checks import GREATEST_MODULUS, check_modulus, check_some, integer_within, is_lot
from restlots.errors import BadPlace, BadRests
from restlots.sieves import Sieve, share

GREATEST_LISTED_BY = 1000


def only(sieve, indexes):
    """Return the sieve that has just the bars with these indexes."""
    return Sieve(tuple([sieve.bars[index] for index in indexes]))


def others(sieve, indexes):
    """Return the list of the indexes of all bars but these."""
    return [index for index in range(len(sieve.bars)) if index not in indexes]


def smallest_sets(sieve, suits):
    """Return the ascending list of the smallest sets of bars that suit, ascending tuples of indexes; [] if none do."""
    for many in range(len(sieve.bars) + 1):
        found = [indexes for indexes in combinations(range(len(sieve.bars)), many) if suits(indexes)]
        if found != []:
            return found
    return []


def is_enough(sieve, indexes):
    """Tell whether by these bars alone the same numbers fit."""
    # All numbers that fit the sieve fit some of its bars, so the same ones fit if as many do.
    return share(only(sieve, indexes)) == share(sieve)


def needless(sieve):
    """Return the ascending list of the indexes of all bars without which, each alone, the same numbers fit."""
    return [index for index in range(len(sieve.bars)) if is_enough(sieve, others(sieve, (index,)))]


def smallest_kept(sieve):
    """Return the ascending list of all smallest sets of bars by which, alone, the same numbers fit."""
    return smallest_sets(sieve, lambda indexes: is_enough(sieve, indexes))


def idle_in(sieve, bar):
    """Return the ascending tuple of the rests of a bar's lot that no fitting number leaves."""
    modulus, lot = bar
    left = {number % modulus for number in sieve.classes}
    return tuple([rest for rest in lot if rest not in left])


def idle_rests(sieve):
    """Return the list, for each bar, of the ascending tuple of the rests of its lot that no fitting number leaves."""
    return [idle_in(sieve, bar) for bar in sieve.bars]


def tight(sieve):
    """Return the sieve without the rests that no fitting number leaves."""
    kept = []
    for (modulus, lot), idle in zip(sieve.bars, idle_rests(sieve)):
        kept.append((modulus, tuple([rest for rest in lot if rest not in idle])))
    return Sieve(tuple(kept))


def check_place(sieve, index):
    """Raise BadPlace for any value that is no index of a bar."""
    if not integer_within(index, 0, len(sieve.bars) - 1):
        raise BadPlace("no index of a bar")


def without(sieve, index):
    """Return the sieve without a bar."""
    check_place(sieve, index)
    return only(sieve, others(sieve, (index,)))


def narrowed(sieve, index, lot):
    """Return the sieve in which the lot of a bar has just those of its rests that are in lot."""
    check_place(sieve, index)
    modulus, told = sieve.bars[index]
    if not is_lot(lot, modulus):
        raise BadRests("no lot of a bar with this modulus")
    bar = (modulus, tuple([rest for rest in told if rest in lot]))
    return Sieve(sieve.bars[:index] + (bar,) + sieve.bars[index + 1:])


def rests(sieve, modulus):
    """Return the ascending list of all rests by the modulus that fitting numbers leave."""
    check_modulus(modulus, GREATEST_LISTED_BY)
    common = gcd(sieve.whole, modulus)
    left = {number % common for number in sieve.classes}
    # The numbers of a class leave all rests that agree with it by the common measure.
    return [rest for rest in range(modulus) if rest % common in left]


def sure_rest(sieve, modulus):
    """Return the one rest by the modulus that all fitting numbers leave, None if they leave more."""
    check_modulus(modulus, GREATEST_MODULUS)
    greatest, rest = greatest_sure(sieve)
    if greatest % modulus != 0:
        return None
    return rest % modulus


def greatest_sure(sieve):
    """Return the tuple (modulus, rest) of the greatest modulus by which all fitting numbers leave one rest."""
    check_some(sieve)
    first = sieve.classes[0]
    # A modulus leaves one rest if it measures all differences of fitting numbers; whole is one of them.
    modulus = sieve.whole
    for number in sieve.classes:
        modulus = gcd(modulus, number - first)
    return (modulus, first % modulus)
