"""Joins rests by several moduli to rests by their least common multiple."""

from math import gcd, lcm


def inverse(number, modulus):
    """Return what times number leaves 1 by modulus (0 by 1); the two have no common measure but 1."""
    rest, after = number, modulus
    factor, factor_after = 1, 0
    while after != 0:
        many = rest // after
        rest, after = after, rest - many * after
        factor, factor_after = factor_after, factor - many * factor_after
    return factor % modulus


def joined(classes, whole, modulus, lot):
    """Return the list of all rests by lcm(whole, modulus) that leave one of classes by whole, one of lot by modulus."""
    common = gcd(whole, modulus)
    turns = modulus // common
    back = inverse(whole // common, turns)
    found = []
    for known in classes:
        for rest in lot:
            apart = rest - known
            # Only rests that agree by the common measure are left by one number.
            if apart % common == 0:
                found.append(known + whole * (apart // common * back % turns))
    return found


def classes_of(bars):
    """Return the ascending tuple of all numbers, from 0 to the least common multiple less 1, that fit the bars."""
    whole = 1
    classes = [0]
    for modulus, lot in bars:
        classes = joined(classes, whole, modulus, lot)
        whole = lcm(whole, modulus)
    return tuple(sorted(classes))
