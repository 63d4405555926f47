"""What is reckoned from fitting numbers: sums, products and splits, and moved, stretched and shared numbers."""

from math import gcd

from restlots.checks import GREATEST_MODULUS, check_modulus, check_number, integer_within
from restlots.errors import BadNumber, TooGreat
from restlots.joining import inverse
from restlots.lots import rests
from restlots.sides import both
from restlots.sieves import Sieve

GREATEST_RECKONED_BY = 200
GREATEST_FACTOR = 1000


def pairs_of_rests(one, other, modulus):
    """Return the list of all tuples of a rest that numbers of one leave, and a rest that numbers of other leave."""
    check_modulus(modulus, GREATEST_RECKONED_BY)
    of_other = rests(other, modulus)
    return [(first, second) for first in rests(one, modulus) for second in of_other]


def sums(one, other, modulus):
    """Return the ascending list of the rests of all sums of a number that fits one and one that fits other."""
    return sorted({(first + second) % modulus for first, second in pairs_of_rests(one, other, modulus)})


def products(one, other, modulus):
    """Return the ascending list of the rests of all products of a number that fits one and one that fits other."""
    return sorted({first * second % modulus for first, second in pairs_of_rests(one, other, modulus)})


def split(one, other, number):
    """Return the least x from 0 on that fits one, so that number - x fits other, None if there is none."""
    # Number - x fits other if x is number less one of the numbers that fit other.
    classes = both(one, taken_from(other, number)).classes
    if classes == ():
        return None
    return classes[0]


def turned(sieve, sign, by):
    """Return the sieve of the fitting numbers, each taken sign (1 or -1) times, and by."""
    bars = []
    for modulus, lot in sieve.bars:
        bars.append((modulus, tuple(sorted([(sign * rest + by) % modulus for rest in lot]))))
    return Sieve(tuple(bars))


def moved(sieve, by):
    """Return the sieve of the fitting numbers and by."""
    check_number(by)
    return turned(sieve, 1, by)


def taken_from(sieve, number):
    """Return the sieve of the number less the fitting numbers."""
    check_number(number)
    return turned(sieve, -1, number)


def check_factor(value):
    """Raise BadNumber for any value that numbers are not stretched or shared by."""
    if not integer_within(value, 1, GREATEST_FACTOR):
        raise BadNumber("no factor")


def stretched(sieve, by):
    """Return the sieve of by times the fitting numbers."""
    check_factor(by)
    if sieve.bars == ():
        return Sieve(((by, (0,)),))
    bars = [(modulus * by, tuple([rest * by for rest in lot])) for modulus, lot in sieve.bars]
    if max([modulus for modulus, _ in bars]) > GREATEST_MODULUS:
        raise TooGreat("a modulus is too great")
    return Sieve(tuple(bars))


def shared_bar(bar, by):
    """Return the bar of all numbers that, taken by times, leave rests of the bar's lot."""
    modulus, lot = bar
    common = gcd(modulus, by)
    smaller = modulus // common
    back = inverse(by // common, smaller)
    # What is taken by times leaves only rests that the common measure of modulus and by measures, too.
    return (smaller, tuple(sorted([rest // common * back % smaller for rest in lot if rest % common == 0])))


def shared(sieve, by):
    """Return the sieve of all numbers that, taken by times, fit."""
    check_factor(by)
    return Sieve(tuple([shared_bar(bar, by) for bar in sieve.bars]))
