"""Sieves, and what one number is to them."""

from math import gcd, lcm

from restlots.checks import check_number, is_bar
from restlots.errors import BadBars, TooGreat, TooMany
from restlots.joining import classes_of

MOST_BARS = 6
GREATEST_WHOLE = 10 ** 30
MOST_CHOICES = 2000


def check_bars(bars):
    """Raise BadBars for any value that is no tuple of at most 6 bars."""
    if not isinstance(bars, tuple) or len(bars) > MOST_BARS:
        raise BadBars(None)
    for index, bar in enumerate(bars):
        if not is_bar(bar):
            raise BadBars(index)


def whole_of(bars):
    """Return the least common multiple of all moduli; TooGreat if it is above its limit."""
    whole = 1
    for modulus, _ in bars:
        whole = lcm(whole, modulus)
    if whole > GREATEST_WHOLE:
        raise TooGreat("the whole is too great")
    return whole


def check_choices(bars):
    """Raise TooMany if the product of the numbers of rests in all lots is above its limit."""
    choices = 1
    for _, lot in bars:
        # An empty lot counts as 1, so that it does not hide how great the other lots are.
        choices = choices * max(1, len(lot))
    if choices > MOST_CHOICES:
        raise TooMany("the lots have too many rests")


class Sieve:
    """A row of bars; a number fits if its rest by each of them lies in the lot."""

    def __init__(self, bars):
        check_bars(bars)
        self._bars = bars
        self._whole = whole_of(bars)
        check_choices(bars)
        self._classes = classes_of(bars)

    def __eq__(self, other):
        return isinstance(other, Sieve) and self._bars == other._bars

    @property
    def bars(self):
        """The tuple of the bars, as they were given."""
        return self._bars

    @property
    def whole(self):
        """The least common multiple of all moduli."""
        return self._whole

    @property
    def classes(self):
        """The ascending tuple of all numbers from 0 to whole - 1 that fit."""
        return self._classes


def lets_through(sieve, number):
    """Tell whether an integer, however great, fits."""
    for modulus, lot in sieve.bars:
        if number % modulus not in lot:
            return False
    return True


def fits(sieve, number):
    """Tell whether the number fits."""
    check_number(number)
    return lets_through(sieve, number)


def broken(sieve, number):
    """Return the ascending list of the indexes of the bars whose lots have not the number's rest."""
    check_number(number)
    return [index for index, (modulus, lot) in enumerate(sieve.bars) if number % modulus not in lot]


def rests_of(sieve, number):
    """Return the tuple of the number's rests by all bars."""
    check_number(number)
    return tuple([number % modulus for modulus, _ in sieve.bars])


def share(sieve):
    """Return the tuple (numerator, denominator) of how many of the numbers from 0 to whole - 1 fit, by whole."""
    many = len(sieve.classes)
    common = gcd(many, sieve.whole)
    return (many // common, sieve.whole // common)
