"""Checks of single values, and small sums over integers."""

from math import gcd

from otherhand.papers import fixed

LETTERS = "abcdefghijklmnopqrstuvwxyz"
LETTERS_AND_DIGITS = "abcdefghijklmnopqrstuvwxyz0123456789"
LONGEST_NAME = 12


def is_integer(value):
    """Whether a value is an integer; True and False are none."""
    return isinstance(value, int) and not isinstance(value, bool)


def is_within(value, least, most):
    """Whether a value is an integer from least to most; None is no bound."""
    if not is_integer(value):
        return False
    return (least is None or value >= least) and (most is None or value <= most)


def is_name(value):
    """Whether a value is a name: small letters and digits, a letter first."""
    if not isinstance(value, str) or not 1 <= len(value) <= LONGEST_NAME:
        return False
    return value[0] in LETTERS and all([sign in LETTERS_AND_DIGITS for sign in value])


def is_numbers(value):
    """Whether a value is a list or tuple of integers."""
    return isinstance(value, (list, tuple)) and all([is_integer(number) for number in value])


def is_sign(value):
    """Whether a value is 1 or -1."""
    return is_integer(value) and value in (1, -1)


def first_twice(values):
    """The first value that equals one ahead of it, None if there is none."""
    seen = {}
    for value in values:
        # Lists may stand for tuples, but cannot be keys.
        key = fixed(value)
        if key in seen:
            return key
        seen[key] = True
    return None


def is_just(value, told):
    """Whether any value is just this one, told of integers, strings, None and tuples.

    True and False stand for no number here, and no number for them.
    """
    if isinstance(told, tuple):
        if not isinstance(value, tuple) or len(value) != len(told):
            return False
        return all([is_just(part, its) for part, its in zip(value, told)])
    if isinstance(told, str):
        return isinstance(value, str) and value == told
    return value is None if told is None else is_integer(value) and value == told


def is_ascending_below(value, many):
    """Whether a value is an ascending tuple of unlike integers from 0 to many - 1."""
    if not isinstance(value, tuple) or not all([is_within(at, 0, many - 1) for at in value]):
        return False
    return are_ascending(value)


def are_ascending(values):
    """Whether values of one sort ascend, none of them twice."""
    return all([one < other for one, other in zip(values, values[1:])])


def lowest(number, by):
    """The fraction number by by in lowest terms."""
    shared = gcd(number, by)
    sign = -1 if by < 0 else 1
    return sign * number // shared, sign * by // shared


def is_odd(row):
    """Whether unlike integers have an odd number of pairs in the wrong order."""
    places = {number: at for at, number in enumerate(sorted(row))}
    aims = [places[number] for number in row]
    odd = False
    # Each exchange of two turns odd into even; so long rows need no pairs.
    for at in range(len(aims)):
        while aims[at] != at:
            aim = aims[at]
            aims[at], aims[aim] = aims[aim], aim
            odd = not odd
    return odd
