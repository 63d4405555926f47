"""Lots told back from numbers that were seen to fit, or not to fit."""

from restlots.checks import integer_within, is_number, is_pair
from restlots.errors import BadModuli, BadSeen, Nothing

MOST_MODULI = 4
GREATEST_TOLD_BY = 30
MOST_SEEN = 20
MOST_UNFIT = 8


def check_moduli(moduli):
    """Raise BadModuli for any value that is no tuple of 1 to 4 integers from 1 to 30."""
    if not isinstance(moduli, tuple) or not 1 <= len(moduli) <= MOST_MODULI:
        raise BadModuli(None)
    for index, modulus in enumerate(moduli):
        if not integer_within(modulus, 1, GREATEST_TOLD_BY):
            raise BadModuli(index)


def is_sight(value):
    """Tell whether any value is a tuple of a number, and True or False."""
    return is_pair(value) and is_number(value[0]) and isinstance(value[1], bool)


def check_seen(seen):
    """Raise BadSeen for any value that is no list or tuple of at most 20 sights, at most 8 of them with False."""
    if not isinstance(seen, (list, tuple)) or len(seen) > MOST_SEEN:
        raise BadSeen(None)
    unfit = 0
    for index, sight in enumerate(seen):
        if not is_sight(sight):
            raise BadSeen(index)
        if not sight[1]:
            unfit += 1
        if unfit > MOST_UNFIT:
            raise BadSeen(index)


def marks_of(moduli, number):
    """Return the list of the marks of a number: the tuples (index, rest) of its rests by all moduli."""
    return [(index, number % modulus) for index, modulus in enumerate(moduli)]


def held_marks(moduli, seen):
    """Return the ascending list of the marks that all rows of lots have, as numbers that fit have them."""
    return sorted({mark for number, does in seen if does for mark in marks_of(moduli, number)})


def unheld_marks(moduli, seen):
    """Return the list, for each number that does not fit, of its marks that are not held.

    The rows of lots have not all of these.
    """
    held = held_marks(moduli, seen)
    return [[mark for mark in marks_of(moduli, number) if mark not in held] for number, does in seen if not does]


def rows_with(total, held, unheld):
    """Return how many rows of lots have all of the held marks, and of each list of unheld ones not all.

    Total is how many marks there are.
    """
    if unheld == []:
        return 1 << (total - len(held))
    more = held + [mark for mark in unheld[0] if mark not in held]
    # Of the rows that are right for the other lists, those that have all marks of the first one are wrong.
    return rows_with(total, held, unheld[1:]) - rows_with(total, more, unheld[1:])


def many_lots(moduli, seen):
    """Return how many rows of lots there are, one for each modulus, with which all that was seen is so."""
    check_moduli(moduli)
    check_seen(seen)
    return rows_with(sum(moduli), held_marks(moduli, seen), unheld_marks(moduli, seen))


def rests_at(marks, index):
    """Return the ascending list of the rests of the marks with this index."""
    return sorted({rest for place, rest in marks if place == index})


def sure_rests(moduli, seen):
    """Return the list, for each modulus, of the two lists of the rests that are in its lot in all rows, and in none."""
    check_moduli(moduli)
    check_seen(seen)
    held = held_marks(moduli, seen)
    unheld = unheld_marks(moduli, seen)
    if [] in unheld:
        raise Nothing("there are no such rows of lots")
    # The row with no marks but the held ones is right, so no others are in all rows. One more mark leaves it right
    # but where it is the last one that a number lacks.
    barred = [marks[0] for marks in unheld if len(marks) == 1]
    return [(rests_at(held, index), rests_at(barred, index)) for index in range(len(moduli))]
