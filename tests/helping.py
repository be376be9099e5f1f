"""Small helps for the tests."""

import unittest

from otherhand.errors import HandError

NO_INTEGERS = [True, False, None, "1", "", 1.0, [1], (1,), {}, b"1", object()]
ODD_VALUES = [None, True, False, 0, 1, -1, 7, 10 ** 30, "", "a", "pieces", 1.5, [], (), [[]],
              [None], {}, {"a": 1}, set(), b"a", object(), int, [1, [2, [3]]], ((0, 1),)]


class Asking(unittest.TestCase):
    """A test case that asks for an error together with its fields."""

    def assert_raises(self, error, call, *told, **more):
        with self.assertRaises(HandError) as caught:
            call(*told, **more)
        self.assertIs(type(caught.exception), type(error))
        self.assertEqual(vars(caught.exception), vars(error))
        return caught.exception
