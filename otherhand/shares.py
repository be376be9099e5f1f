"""Shares: fractions of sorts, and the same as whole parts of one number.

Amounts are told as a dict from sorts, by their numbers, to integers; all of
them together make the whole.
"""

from math import lcm

from otherhand.checks import is_integer, lowest

NOTHING = (0, 1)
ALL = (1, 1)


def is_fraction(value):
    """Whether a value is a pair of integers in lowest terms, the second one above 0."""
    if not isinstance(value, (list, tuple)) or len(value) != 2:
        return False
    number, by = value
    if not is_integer(number) or not is_integer(by) or by < 1:
        return False
    return lowest(number, by) == (number, by)


def is_share(value):
    """Whether a value is a fraction from 0 to 1."""
    return is_fraction(value) and 0 <= value[0] <= value[1]


def added(one, other):
    """The sum of two fractions."""
    return lowest(one[0] * other[1] + other[0] * one[1], one[1] * other[1])


def apart(one, other):
    """What two fractions differ by."""
    return lowest(abs(one[0] * other[1] - other[0] * one[1]), one[1] * other[1])


def part_of(share, fraction):
    """This share of a fraction."""
    return lowest(share[0] * fraction[0], share[1] * fraction[1])


def rest_of(share):
    """What is left of all without a share."""
    return (share[1] - share[0], share[1])


def add_to(amounts, sort, amount):
    """Adds to the amount of a sort."""
    if amount:
        amounts[sort] = amounts.get(sort, 0) + amount


def in_whole_parts(shares):
    """The amounts of a dict of shares."""
    whole = 1
    for sort in shares:
        whole = lcm(whole, shares[sort][1])
    return {sort: shares[sort][0] * (whole // shares[sort][1]) for sort in shares}


def is_balanced_by(parting, shares):
    """Whether each sort has as much as the sort of its mirror images, in shares or in amounts."""
    for sort in shares:
        if shares.get(parting.image_of(sort)) != shares[sort]:
            return False
    return True
