"""Sieves and values that several tests use, and the plainest way to tell what fits."""

from itertools import combinations, product

from restlots.errors import RestError
from restlots.sieves import Sieve

# Pairwise without a common measure, and their products stand closely below and above 10 ** 30.
BELOW = (99991, 99989, 99971, 99961, 419059, 23884)
ABOVE = (99991, 99989, 99971, 99961, 323167, 30971)

LIMIT = 10 ** 30

NO_INTEGERS = [True, False, None, "", "3", (), (3,), [], [3], {}, {3: 3}]
NO_NUMBERS = NO_INTEGERS + [LIMIT + 1, -LIMIT - 1]


def all_lots(modulus):
    """All lots that a bar of a small modulus can have."""
    return [lot for many in range(modulus + 1) for lot in combinations(range(modulus), many)]


def all_rows(moduli):
    """All rows of bars with these moduli."""
    return [tuple(zip(moduli, lots)) for lots in product(*[all_lots(modulus) for modulus in moduli])]


def small_rows():
    """Rows of bars of small wholes: of none, one and several bars, with and without common measures."""
    rows = [()]
    for moduli in [(1,), (2,), (3,), (4,), (6,), (1, 2), (2, 2), (2, 3), (2, 4), (3, 2), (4, 3), (2, 4, 1), (2, 3, 4)]:
        rows.extend(all_rows(moduli))
    rows.append(((4, (1, 2)), (6, (1, 4))))
    rows.append(((4, (1, 2)), (4, (1, 2))))
    rows.append(((6, (0, 1, 4, 5)), (10, (0, 1, 4, 5, 9)), (15, (0, 1, 4, 5, 9, 10, 14))))
    rows.append(((6, (1, 3, 5)), (10, (1, 2, 3)), (15, (1, 2, 13))))
    rows.append(((12, (0, 5, 7)), (18, (1, 6, 11, 12, 17))))
    rows.append(((2, (0, 1)), (3, (0, 1, 2)), (4, (0, 1, 2, 3)), (5, (0, 1, 2, 3, 4)), (6, (0, 2)), (2, (0,))))
    return rows


def plain_fits(bars, number):
    """Tell whether the number fits, straight from the words."""
    return all(number % modulus in lot for modulus, lot in bars)


def greatest_sieve():
    """A sieve of thirty figures and 2000 classes."""
    lots = [(0, 7, 9, 4000, 23000), (1, 2, 3, 4, 5), (10, 20), (11, 99960), (0, 1, 2, 3, 4), (5, 6, 7, 23883)]
    return Sieve(tuple(zip(BELOW, lots)))


def full(modulus):
    """The bar of this modulus whose lot has all rests."""
    return (modulus, tuple(range(modulus)))


def sample_sieves():
    """All sieves of small_rows."""
    return [Sieve(bars) for bars in small_rows()]


def mixed_sieves():
    """Few sieves of many kinds, for tests that take two of them."""
    rows = [(), ((1, (0,)),), ((1, ()),), ((2, (0,)),), ((2, (1,)),), (full(2),), ((3, (1,)),), ((3, (0, 2)),)]
    rows.extend([((4, (1, 2)),), ((4, (1, 3)),), (full(4), full(6)), ((6, (0, 3)),), ((6, (1, 4)), (4, (1, 2)))])
    rows.extend([((4, (1, 2)), (6, (1, 4))), ((12, (1, 10)),), ((4, (1, 2)), (4, (1, 2))), ((5, (0, 4)), (2, (1,)))])
    rows.extend([((4, (0, 2)), (6, (1, 3, 5))), ((6, ()), (5, (1,))), ((8, (0, 5)), (12, (0, 1, 5))), ((9, (4, 8)),)])
    rows.extend([((15, (2, 7)), (10, (2, 7))), ((7, (6,)),), ((20, (19,)),), ((20, (0, 10)), (8, (0, 2)))])
    return [Sieve(bars) for bars in rows]


def knotted_sieve():
    """A sieve of thirty figures whose last bar is told by the first one, in part."""
    lots = [(3, 500007, 10, 11, 12), (0, 1, 2, 3, 4), (5, 6, 7, 8), (1, 2), (8, 9), (3, 7, 10, 20, 30)]
    moduli = (1000000, 999999, 999997, 999991, 999989, 500000)
    return Sieve(tuple((modulus, tuple(sorted(lot))) for modulus, lot in zip(moduli, lots)))


def refused(function, *arguments):
    """Return the class of the error that a call raises, None if it raises none."""
    try:
        function(*arguments)
    except RestError as error:
        return error.__class__
    return None
