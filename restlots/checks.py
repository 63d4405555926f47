"""What integers, numbers, lots and bars are, asked of any value, and whether any number fits."""

from restlots.errors import BadModulus, BadNumber, Nothing

GREATEST_NUMBER = 10 ** 30
GREATEST_MODULUS = 10 ** 6
MOST_RESTS = 60


def is_integer(value):
    """Tell whether any value is an integer (no boolean)."""
    return isinstance(value, int) and not isinstance(value, bool)


def integer_within(value, least, greatest):
    """Tell whether any value is an integer from least to greatest."""
    return is_integer(value) and least <= value <= greatest


def is_number(value):
    """Tell whether any value is a number."""
    return integer_within(value, -GREATEST_NUMBER, GREATEST_NUMBER)


def check_number(value):
    """Raise BadNumber for any value that is no number."""
    if not is_number(value):
        raise BadNumber("no number")


def check_modulus(value, greatest):
    """Raise BadModulus for any value that is no integer from 1 to greatest."""
    if not integer_within(value, 1, greatest):
        raise BadModulus("no modulus")


def is_ascending(value, limit):
    """Tell whether any value is an ascending tuple of unlike integers from 0 on, below the limit."""
    if not isinstance(value, tuple):
        return False
    least = 0
    for one in value:
        if not integer_within(one, least, limit - 1):
            return False
        least = one + 1
    return True


def is_lot(value, modulus):
    """Tell whether any value is a lot of a bar with this modulus."""
    return is_ascending(value, modulus) and len(value) <= MOST_RESTS


def is_pair(value):
    """Tell whether any value is a tuple of two things."""
    return isinstance(value, tuple) and len(value) == 2


def is_bar(value):
    """Tell whether any value is a bar."""
    if not is_pair(value):
        return False
    modulus, lot = value
    return integer_within(modulus, 1, GREATEST_MODULUS) and is_lot(lot, modulus)


def check_some(sieve):
    """Raise Nothing if no number fits."""
    if sieve.classes == ():
        raise Nothing("no number fits")
