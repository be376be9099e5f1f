"""Small helps for the tests."""

import unittest

from otherhand.errors import HandError
from otherhand.papers import Paper

NO_INTEGERS = [True, False, None, "1", "", 1.0, [1], (1,), {}, b"1", object()]
ODD_VALUES = [None, True, False, 0, 1, -1, 7, 10 ** 30, "", "a", "pieces", 1.5, [], (), [[]],
              [None], {}, {"a": 1}, set(), b"a", object(), int, [1, [2, [3]]], ((0, 1),)]


class Asking(unittest.TestCase):
    """A test case that asks for an error together with its fields."""

    def assert_raises(self, error, call, *told, **more):
        with self.assertRaises(HandError) as caught:
            call(*told, **more)
        self.assertIs(type(caught.exception), type(error))
        self.assertEqual(vars(caught.exception), vars(error))
        return caught.exception


def bent_values(value):
    """The values that come of one, made of tuples, by a change in one place."""
    if isinstance(value, tuple):
        found = [value + ((),), None, value[0] if value else 0]
        for at in range(len(value)):
            ahead, behind = value[:at], value[at + 1:]
            found += [ahead + behind, ahead + (value[at],) + value[at:]]
            found += [ahead + (bent,) + behind for bent in bent_values(value[at])]
            if at + 1 < len(value):
                found.append(ahead + (value[at + 1], value[at]) + value[at + 2:])
        found.append(value[::-1])
    elif isinstance(value, bool) or value is None:
        found = [0, 1, -1, (), "", "x", not value, None]
    elif isinstance(value, int):
        found = [value + 1, value - 1, -value, float(value), str(value), None, (value,), 10 ** 30]
        if value in (0, 1):
            found.append(bool(value))
    else:
        found = [None, 0, value + "x", value[:-1], value.upper(), (value,), tuple(value)]
    # True and 1, or 1.0, would be equal for Python.
    return [bent for bent in found if repr(bent) != repr(value)]


class Agreeing:
    """What says that it equals anything."""

    def __eq__(self, other):
        return True

    __hash__ = None


def same_named(paper):
    """Values of other classes that have the name and the attributes of a paper."""
    found = []
    for base in (object, Paper):
        made = type(type(paper).__name__, (base,), {"__init__": lambda self: None})
        other = made()
        vars(other).update(vars(paper))
        found.append(other)
    return found
