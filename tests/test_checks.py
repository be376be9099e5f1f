import random
import time
import unittest
from fractions import Fraction

from otherhand import checks
from tests.helping import NO_INTEGERS
from tests.oracle import wrong_pairs

BIG = 2 ** 200


class TestChecks(unittest.TestCase):
    def test_is_integer(self):
        for value in (0, 1, -1, BIG, -BIG):
            self.assertIs(checks.is_integer(value), True)
        for value in NO_INTEGERS:
            self.assertIs(checks.is_integer(value), False)

    def test_is_within(self):
        asked = [
            ((3, 3, 5), True), ((5, 3, 5), True), ((2, 3, 5), False), ((6, 3, 5), False),
            ((3, None, 3), True), ((4, None, 3), False), ((-BIG, None, 3), True),
            ((3, 3, None), True), ((2, 3, None), False), ((BIG, 3, None), True),
            ((-BIG, None, None), True), ((BIG, BIG, BIG), True), ((BIG + 1, BIG, BIG), False),
            ((0, 1, 0), False), ((True, 0, 2), False), ((False, 0, 2), False),
            ((True, None, None), False),
        ]
        for told, answer in asked:
            self.assertIs(checks.is_within(*told), answer, told)
        for value in NO_INTEGERS:
            self.assertIs(checks.is_within(value, None, None), False)

    def test_is_name(self):
        for value in ("a", "z", "a1", "abcdefghijkl", "a09z", "new0"):
            self.assertIs(checks.is_name(value), True, value)
        for value in ("", "1a", "A", "aB", "abcdefghijklm", "a b", "a ", " a", "a*", "a+", "a\n",
                      "\u00e9", "a\u00e9", "a\u0661", "\u0251", "_a", "a_", ":", "/"):
            self.assertIs(checks.is_name(value), False, value)
        for value in (None, True, 1, ["a"], ("a",), {"a": 1}, b"a", [["a"]]):
            self.assertIs(checks.is_name(value), False, value)

    def test_is_numbers(self):
        for value in ([], (), [1], (1, -2), [BIG, -BIG], [0, 0]):
            self.assertIs(checks.is_numbers(value), True)
        for value in (None, True, 1, "12", "", {}, {1: 2}, {1}, [True], (1, False), [None], ["1"],
                      [[1]], [(1,)], [1.0], range(3), b"12"):
            self.assertIs(checks.is_numbers(value), False)

    def test_is_sign(self):
        for value in (1, -1):
            self.assertIs(checks.is_sign(value), True)
        for value in (0, 2, -2, BIG, *NO_INTEGERS):
            self.assertIs(checks.is_sign(value), False)

    def test_first_twice(self):
        asked = [
            ([], None), ([1], None), ([1, 2, 3], None), ([1, 2, 2, 1], 2), ([1, 2, 1, 2], 1),
            (["b", "a", "b"], "b"), (("a", "A"), None), ([BIG, 1, BIG], BIG),
            ([(0, 1), (1, 0)], None), ([(0, 1), (1, 2), (0, 1)], (0, 1)),
            ([(), (1,), ()], ()), ([("a", 1), ("a", 1)], ("a", 1)), ([0, 1, 0, 0], 0),
            ([[0, 1], (0, 1)], (0, 1)), ([1, "1"], None), ([(1,), 1], None),
        ]
        for values, answer in asked:
            self.assertEqual(checks.first_twice(values), answer, values)

    def test_lowest(self):
        asked = [
            (6, -4, (-3, 2)), (0, 5, (0, 1)), (0, -5, (0, 1)), (4, 2, (2, 1)), (-4, -6, (2, 3)),
            (1, 1, (1, 1)), (-7, 1, (-7, 1)), (BIG, 2 * BIG, (1, 2)), (3, -BIG, (-3, BIG)),
        ]
        for number, by, answer in asked:
            self.assertEqual(checks.lowest(number, by), answer)
        rng = random.Random(3)
        for _ in range(200):
            number, by = rng.randint(-60, 60), rng.choice([-1, 1]) * rng.randint(1, 60)
            asked = Fraction(number, by)
            self.assertEqual(checks.lowest(number, by), (asked.numerator, asked.denominator))

    def test_is_odd(self):
        for row in ([], (), [1], [1, 2], [0, 5, BIG], [2, 0, 1], [3, 2, 1, 0]):
            self.assertIs(checks.is_odd(row), False, row)
        for row in ([2, 1], (1, 0, 2), [2, 1, 0], [BIG, -BIG], [0, 1, 3, 2]):
            self.assertIs(checks.is_odd(row), True, row)
        rng = random.Random(4)
        for _ in range(300):
            row = rng.sample(range(-50, 50), rng.randint(0, 9))
            self.assertEqual(checks.is_odd(row), wrong_pairs(row) % 2 == 1)
            kept = list(row)
            checks.is_odd(row)
            self.assertEqual(row, kept)

    def test_long_rows_take_a_short_time(self):
        begun = time.process_time()
        row = random.Random(5).sample(range(10 ** 40, 10 ** 40 + 20000), 20000)
        checks.is_odd(row)
        self.assertIsNone(checks.first_twice(row))
        self.assertEqual(checks.first_twice(row + row[:1]), row[0])
        self.assertLess(time.process_time() - begun, 3)


if __name__ == "__main__":
    unittest.main()
