"""What integers, numbers, lots and bars are, asked of any value."""

from restlots.errors import BadNumber

GREATEST_NUMBER = 10 ** 30
GREATEST_MODULUS = 10 ** 6
MOST_RESTS = 60


def integer_within(value, least, greatest):
    """Tell whether any value is an integer (no boolean) from least to greatest."""
    return isinstance(value, int) and not isinstance(value, bool) and least <= value <= greatest


def is_number(value):
    """Tell whether any value is a number."""
    return integer_within(value, -GREATEST_NUMBER, GREATEST_NUMBER)


def check_number(value):
    """Raise BadNumber for any value that is no number."""
    if not is_number(value):
        raise BadNumber("no number")


def is_lot(value, modulus):
    """Tell whether any value is a lot of a bar with this modulus."""
    if not isinstance(value, tuple) or len(value) > MOST_RESTS:
        return False
    least = 0
    for rest in value:
        if not integer_within(rest, least, modulus - 1):
            return False
        least = rest + 1
    return True


def is_bar(value):
    """Tell whether any value is a bar."""
    if not isinstance(value, tuple) or len(value) != 2:
        return False
    modulus, lot = value
    return integer_within(modulus, 1, GREATEST_MODULUS) and is_lot(lot, modulus)
