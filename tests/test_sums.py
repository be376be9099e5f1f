import random
import time
import unittest
from itertools import combinations

from otherhand.sums import barring, sum_numbers, sum_of


def added(lots):
    found = set()
    for lot in lots:
        found ^= set(lot)
    return tuple(sorted(found))


class TestSums(unittest.TestCase):
    def test_sum_of(self):
        asked = [
            ([], ()), ([()], ()), ([(1, 2)], (1, 2)), ([(1, 2), (1, 2)], ()),
            ([(0, 1), (1, 2), (0, 2)], ()), ([[0, 5], [5, 9], (7,)], (0, 7, 9)),
            ([(2 ** 90,), (2 ** 80, 2 ** 90)], (2 ** 80,)), ([(1,), (1,), (1,)], (1,)),
        ]
        for lots, answer in asked:
            self.assertEqual(sum_of(lots), answer)
            self.assertEqual(sum_of(tuple(lots)), answer)

    def test_edges(self):
        self.assertEqual(sum_numbers([], ()), ())
        self.assertIsNone(barring([], ()))
        self.assertIsNone(sum_numbers([], (3,)))
        self.assertEqual(barring([], (3,)), (3,))
        self.assertEqual(sum_numbers([()], ()), ())
        self.assertIsNone(sum_numbers([()], (0,)))
        self.assertEqual(sum_numbers([[2 ** 70]], [2 ** 70]), (0,))
        self.assertIsNone(barring([[2 ** 70]], [2 ** 70]))

    def test_just_one_of_both(self):
        rng = random.Random(7)
        for _ in range(400):
            width = rng.randint(1, 6)
            names = sorted(10 ** 25 * number for number in rng.sample(range(99), width))
            lots = [
                tuple(sorted(rng.sample(names, rng.randint(0, width))))
                for _ in range(rng.randint(0, 6))
            ]
            lot = tuple(sorted(rng.sample(names, rng.randint(0, width))))
            can_be = any(
                added(some) == lot
                for many in range(len(lots) + 1)
                for some in combinations(lots, many)
            )
            numbers, barred = sum_numbers(lots, lot), barring(lots, lot)
            self.assertEqual(numbers is not None, can_be)
            self.assertEqual(barred is None, can_be)
            self.assertEqual((numbers, barred), (sum_numbers(lots, lot), barring(lots, lot)))
            if can_be:
                self.assertEqual(list(numbers), sorted(set(numbers)))
                self.assertEqual(added([lots[number] for number in numbers]), lot)
            else:
                self.assertEqual(list(barred), sorted(set(barred)))
                self.assertTrue(all(len(set(barred) & set(told)) % 2 == 0 for told in lots))
                self.assertEqual(len(set(barred) & set(lot)) % 2, 1)

    def test_many_and_long_lots_take_a_short_time(self):
        rng = random.Random(8)
        begun = time.process_time()
        lots = [tuple(sorted(rng.sample(range(600), 300))) for _ in range(598)]
        lot = added(lots[::3])
        self.assertEqual(added([lots[number] for number in sum_numbers(lots, lot)]), lot)
        far = added([lot, (0,)])
        barred = barring(lots, far)
        if barred is None:
            self.assertIsNotNone(sum_numbers(lots, far))
        else:
            self.assertTrue(all(len(set(barred) & set(told)) % 2 == 0 for told in lots))
        long = tuple(range(10 ** 30, 10 ** 30 + 30000))
        self.assertEqual(sum_numbers([long, long[1:]], long[:1]), (0, 1))
        self.assertIsNotNone(barring([long], long[1:]))
        self.assertLess(time.process_time() - begun, 5)


if __name__ == "__main__":
    unittest.main()
