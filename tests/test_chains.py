"""Chains and wreaths of many hubs, against listings of all rows of signs."""

import random
import time
import unittest
from itertools import product
from math import gcd

from otherhand.bodies import Body
from otherhand.chains import (
    chain_at, chain_body, chain_least, chain_mirrorlike, chain_sorts, number_of_chain, wreath_body, wreath_least,
    wreath_mirrorlike, wreath_sorts,
)
from otherhand.counting import many_mirrorlike, many_sorts
from otherhand.errors import BadBody, BadNumber, TooMany
from otherhand.sameness import mirrorlike, same
from tests.helping import NO_INTEGERS, Asking

NO_ROWS = [None, True, 1, "1", "", [], (), {}, [0], [1, 2], [1, True], [1.0], ["1"], [[1]], {1}, {1: 1}, [1, None],
           b"1", [10 ** 20]]
OF_ROWS = [chain_least, number_of_chain, wreath_least, chain_body, wreath_body]


def rows(many):
    return list(product((-1, 1), repeat=many))


def behind(row):
    return tuple(-sign for sign in reversed(row))


def turned(row):
    return tuple(-sign for sign in row)


def like_chains(row):
    return {row, behind(row)}


def like_wreaths(row):
    return {its[at:] + its[:at] for its in (row, behind(row)) for at in range(len(row))}


def listed(many, like):
    """The least rows of all sorts, ascending, and those of the mirrorlike ones."""
    least = [row for row in rows(many) if min(like(row)) == row]
    return least, [row for row in least if turned(row) in like(row)]


def kept_by_steps(many, moves, turn):
    """How many rows stay if the sign at k is led to moves[k] and turned so: by following the steps."""
    met, rounds = set(), 0
    for first in range(many):
        if first in met:
            continue
        at, sign = first, 1
        while at not in met:
            met.add(at)
            at, sign = moves[at], sign * turn
        if sign == -1:
            return 0
        rounds += 1
    return 2 ** rounds


def wreaths_by_steps(many):
    """How many sorts of wreaths, and mirrorlike ones, by all ways to lead a wreath to itself."""
    kept, mirrored = 0, 0
    for step in range(many):
        on = [(at + step) % many for at in range(many)]
        over = [(step - at) % many for at in range(many)]
        kept += kept_by_steps(many, on, 1) + kept_by_steps(many, over, -1)
        mirrored += kept_by_steps(many, on, -1) + kept_by_steps(many, over, 1)
    return kept / (2 * many), mirrored / (2 * many)


class TestNumbers(Asking):
    def test_chains_against_listing(self):
        for many in range(1, 12):
            least, own = listed(many, like_chains)
            self.assertEqual((chain_sorts(many), chain_mirrorlike(many)), (len(least), len(own)))

    def test_wreaths_against_listing(self):
        for many in range(3, 12):
            least, own = listed(many, like_wreaths)
            self.assertEqual((wreath_sorts(many), wreath_mirrorlike(many)), (len(least), len(own)))

    def test_great_numbers(self):
        for many in (12, 59, 60, 61, 1000, 1999, 2000):
            kept = 0 if many % 2 else 2 ** (many // 2)
            self.assertEqual(2 * chain_sorts(many), 2 ** many + kept)
            # The first half tells a row that is the same in the other order; its contrary is of the same sort.
            self.assertEqual(2 * chain_mirrorlike(many), 2 ** (many - many // 2))
            self.assertEqual((chain_sorts(many) - chain_mirrorlike(many)) % 2, 0)
            self.assertEqual((wreath_sorts(many) - wreath_mirrorlike(many)) % 2, 0)
        for many in list(range(12, 49)):
            self.assertEqual((wreath_sorts(many), wreath_mirrorlike(many)), wreaths_by_steps(many))
        for many in (1999, 2000):
            kept = sum(2 ** gcd(step, many) for step in range(many))
            mirrored = sum(2 ** gcd(step, many) for step in range(many) if many // gcd(step, many) % 2 == 0)
            if many % 2:
                self.assertEqual(wreath_sorts(many) * 2 * many, kept)
                self.assertEqual(wreath_mirrorlike(many) * 2 * many, mirrored + many * 2 ** (many // 2 + 1))
            else:
                self.assertEqual(wreath_sorts(many) * 2 * many, kept + many // 2 * 2 ** (many // 2))
                self.assertEqual(wreath_mirrorlike(many) * 2 * many, mirrored + 3 * (many // 2) * 2 ** (many // 2))

    def test_errors(self):
        for call, least in ((chain_sorts, 1), (chain_mirrorlike, 1), (wreath_sorts, 3), (wreath_mirrorlike, 3)):
            for value in (least - 1, 0, -1, 2001, 10 ** 30, *NO_INTEGERS):
                self.assert_raises(BadNumber("many"), call, value)
            self.assertIsInstance(call(least), int)
            self.assertIsInstance(call(2000), int)


class TestRows(Asking):
    def test_least_rows_against_listing(self):
        for many in range(1, 10):
            for row in rows(many):
                self.assertEqual(chain_least(list(row)), min(like_chains(row)))
                if many > 2:
                    self.assertEqual(wreath_least(list(row)), min(like_wreaths(row)))
        rng = random.Random(1401)
        for _ in range(40):
            row = tuple(rng.choice((1, -1)) for _ in range(rng.choice((3, 30, 59, 60))))
            self.assertEqual(wreath_least(row), min(like_wreaths(row)))
            self.assertEqual(chain_least(row), min(row, behind(row)))

    def test_all_chains_there_and_back(self):
        for many in range(1, 11):
            least, _ = listed(many, like_chains)
            self.assertEqual([chain_at(many, number) for number in range(len(least))], least)
            for number, row in enumerate(least):
                for its in like_chains(row):
                    self.assertEqual(number_of_chain(list(its)), number)
            self.assert_raises(BadNumber("number"), chain_at, many, len(least))

    def test_drawn_chains(self):
        rng = random.Random(1403)
        for many in [*range(1, 61), 60, 60, 59, 59]:
            all_of_them = chain_sorts(many)
            numbers = sorted({0, all_of_them - 1, *(rng.randrange(all_of_them) for _ in range(4))})
            found = [chain_at(many, number) for number in numbers]
            self.assertEqual([number_of_chain(row) for row in found], numbers)
            self.assertEqual([number_of_chain(behind(row)) for row in found], numbers)
            self.assertEqual(found, sorted(found))
            self.assertEqual([chain_least(row) for row in found], found)
            self.assertEqual(found[0], (-1,) * many)
            # The greatest least row: all pairs unlike, as great as can be; a middle one -1.
            last = (1,) * (many // 2) + (-1,) * (many - many // 2)
            self.assertEqual(found[-1], last)
            row = tuple(rng.choice((1, -1)) for _ in range(many))
            self.assertEqual(chain_at(many, number_of_chain(row)), chain_least(row))
            for number in (all_of_them, -1, 10 ** 40):
                self.assert_raises(BadNumber("number"), chain_at, many, number)

    def test_errors(self):
        for value in NO_ROWS:
            for call in OF_ROWS:
                self.assert_raises(BadBody("setting"), call, value)
        for value in ([1], [1, -1]):
            for call in (wreath_least, wreath_body):
                self.assert_raises(BadBody("setting"), call, value)
        long = [1] * 61
        for call in OF_ROWS:
            self.assert_raises(TooMany("hubs", 60), call, long)
            self.assert_raises(BadBody("setting"), call, long + [0])
        self.assert_raises(TooMany("hubs", 60), chain_least, [1] * 50000)
        for many in range(5, 61):
            self.assert_raises(TooMany("hubs", 4), chain_body, [1] * many)
        for many in range(6, 61):
            self.assert_raises(TooMany("hubs", 5), wreath_body, [1] * many)
        for value in (0, 61, -1, 2000, *NO_INTEGERS):
            self.assert_raises(BadNumber("many"), chain_at, value, None)
        for value in (-1, 3, *NO_INTEGERS):
            self.assert_raises(BadNumber("number"), chain_at, 2, value)


class TestBodies(Asking):
    def test_chains_as_bodies(self):
        for many in range(1, 5):
            bodies = {row: chain_body(list(row)) for row in rows(many)}
            self.check_bodies(many, bodies, like_chains)
            web = bodies[(1,) * many].web
            self.assertEqual((many_sorts(web), many_mirrorlike(web)), (chain_sorts(many), chain_mirrorlike(many)))
            for row, body in bodies.items():
                self.assertEqual(body, Body(web, row))
        self.assertEqual(str(chain_body([1])), "e h+ e a b : 0 1 / 1 2 / 1 3 / 1 4")
        self.assertEqual(chain_body((1, -1, 1)).web.kinds, tuple("ehhheaaabbb"))

    def test_wreaths_as_bodies(self):
        for many in range(3, 6):
            bodies = {row: wreath_body(list(row)) for row in rows(many)}
            self.check_bodies(many, bodies, like_wreaths)
            web = bodies[(1,) * many].web
            self.assertEqual((many_sorts(web), many_mirrorlike(web)), (wreath_sorts(many), wreath_mirrorlike(many)))
            for row, body in bodies.items():
                self.assertEqual(body, Body(web, (-row[0], *row[1:-1], -row[-1])))
        self.assertEqual(str(wreath_body([1, 1, -1])),
                         "h- h+ h+ a a a b b b : 0 1 / 0 2 / 0 3 / 0 6 / 1 2 / 1 4 / 1 7 / 2 5 / 2 8")

    def check_bodies(self, many, bodies, like):
        for row, body in bodies.items():
            self.assertIs(bool(mirrorlike(body)), turned(row) in like(row))
            for other, its in bodies.items():
                word = "neither"
                if turned(other) in like(row):
                    word = "mirrorof"
                if other in like(row):
                    word = "one"
                self.assertEqual(same(body, its).word, word)

    def test_short_times(self):
        begun = time.process_time()
        for many in (1999, 2000):
            chain_sorts(many), chain_mirrorlike(many), wreath_sorts(many), wreath_mirrorlike(many)
        for number in range(20):
            row = chain_at(60, chain_sorts(60) * number // 20)
            self.assertEqual(number_of_chain(row), chain_sorts(60) * number // 20)
            wreath_least(row)
        self.assertLess(time.process_time() - begun, 4)


if __name__ == "__main__":
    unittest.main()
