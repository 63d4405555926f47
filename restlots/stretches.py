"""Fitting numbers in stretches: counted, numbered, the next and the last ones, and the steps between them."""

from restlots.checks import check_number, check_some, integer_within, is_number
from restlots.errors import BadNumber, BadStretch, TooMany

GREATEST_INDEX = 10 ** 30
MOST_LISTED = 500


def classes_below(classes, number):
    """Return how many of the ascending classes are below the number."""
    low = 0
    high = len(classes)
    while low < high:
        middle = (low + high) // 2
        if classes[middle] < number:
            low = middle + 1
        else:
            high = middle
    return low


def place_from(sieve, number):
    """Return the place of the least fitting number from the number on, 0 if none fits.

    All fitting numbers stand in a row without ends; the least one from 0 on has the place 0, those below have
    places below 0. So stretches are counted by differences of places.
    """
    wholes, rest = divmod(number, sieve.whole)
    return wholes * len(sieve.classes) + classes_below(sieve.classes, rest)


def standing_at(sieve, place):
    """Return the fitting number at a place; some number fits."""
    wholes, index = divmod(place, len(sieve.classes))
    return wholes * sieve.whole + sieve.classes[index]


def check_stretch(begin, end):
    """Raise BadStretch for any values that are no begin and end of a stretch."""
    if not is_number(begin) or not is_number(end) or begin > end:
        raise BadStretch("no stretch")


def count(sieve, begin, end):
    """Return how many numbers from begin on, below end, fit."""
    check_stretch(begin, end)
    return place_from(sieve, end) - place_from(sieve, begin)


def listed(sieve, begin, end):
    """Return the ascending list of the numbers from begin on, below end, that fit."""
    check_stretch(begin, end)
    first = place_from(sieve, begin)
    behind = place_from(sieve, end)
    if behind - first > MOST_LISTED:
        raise TooMany("too many numbers to list")
    return [standing_at(sieve, place) for place in range(first, behind)]


def numbered(sieve, begin, index):
    """Return the fitting number with this index, the first one from begin on having the index 0."""
    check_number(begin)
    if not integer_within(index, 0, GREATEST_INDEX):
        raise BadNumber("no index")
    check_some(sieve)
    return standing_at(sieve, place_from(sieve, begin) + index)


def next_one(sieve, number):
    """Return the least fitting number that is not below the number."""
    check_number(number)
    check_some(sieve)
    return standing_at(sieve, place_from(sieve, number))


def last_one(sieve, number):
    """Return the greatest fitting number that is not above the number."""
    check_number(number)
    check_some(sieve)
    return standing_at(sieve, place_from(sieve, number + 1) - 1)


def nearest_to(sieve, number):
    """Return the ascending list of the one or two fitting numbers that are nearest to the number."""
    around = (last_one(sieve, number), next_one(sieve, number))
    nearest = min([abs(one - number) for one in around])
    return sorted({one for one in around if abs(one - number) == nearest})


def steps_in_order(sieve):
    """Return the list of the steps from each class to the next fitting number, in the order of the classes."""
    return [standing_at(sieve, place + 1) - standing_at(sieve, place) for place in range(len(sieve.classes))]


def steps(sieve):
    """Return the ascending list of the tuples (step, how often) of all steps from a class to the next."""
    check_some(sieve)
    often = {}
    for step in steps_in_order(sieve):
        often[step] = often.get(step, 0) + 1
    return sorted(often.items())


def longest(found):
    """Return the one with the most, of several such the one with the least begin, of tuples (how many, begin)."""
    return min(found, key=lambda one: (-one[0], one[1]))


def longest_gap(sieve):
    """Return the tuple (how many, begin) of the longest stretch of numbers that do not fit."""
    check_some(sieve)
    gaps = [(step - 1, (number + 1) % sieve.whole) for number, step in zip(sieve.classes, steps_in_order(sieve))]
    # Where all numbers fit, all gaps are of 0 numbers, and the least of their begins is 0, as asked for.
    return longest(gaps)


def run_from(sieve, place):
    """Return how many fitting numbers come one behind the other from a place on; not all numbers fit."""
    begin = standing_at(sieve, place)
    many = 1
    while standing_at(sieve, place + many) == begin + many:
        many += 1
    return many


def longest_run(sieve):
    """Return the tuple (how many, begin) of the longest stretch of numbers that fit, None if all fit."""
    check_some(sieve)
    if len(sieve.classes) == sieve.whole:
        return None
    runs = []
    for place, begin in enumerate(sieve.classes):
        # A class just behind another fitting number does not begin a run, so each run is walked once.
        if standing_at(sieve, place - 1) < begin - 1:
            runs.append((run_from(sieve, place), begin))
    return longest(runs)
