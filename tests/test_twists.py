"""Twists, against trying all sums and all renamings, and step by step."""

import random
import time
import unittest
from itertools import combinations

from otherhand.bodies import Body
from otherhand.check_twists import shows_led_by
from otherhand.errors import (
    BadBody, BadLot, BadNumber, BadWeb, Misfit, NoMark, TooMany, Twice,
)
from otherhand.leading import led
from otherhand.papers import Denial, Paper
from otherhand.reached import are_joined, joined_sorts, reached
from otherhand.sorts import sorts
from otherhand.sums import sum_of
from otherhand.turnings import unlike_marks
from otherhand.twists import By, Barred, fewest_twists, led_by, needless, twist_sum, twisted
from otherhand.webs import Web
from tests.helping import NO_INTEGERS, ODD_VALUES, Asking, bent_values, same_named
from tests.oracle import (
    all_rows, any_body, any_row, leads, settings, sorts_by_trying, web_of,
    web_with_all_hubs,
)
from tests.test_counting import BUSH, RING_BUSH
from tests.test_renamings import cube
from tests.test_sorts import DOUBLE, ELEVEN, FULL, STAR, TEN, TWELVE
from tests.test_turnings import PAIR, webs_with_marks

BAD_TWISTS = [None, True, 3, "01", {}, [], (), [1], [None], ["0"], [[0], 1], [[True]], [[0.0]], [["0"]],
              [{0}], [[[0]]], [[0]] * 9, {0: [0]}, [[0], None]]


def any_twists(rng, many):
    """One to eight lots of so many marks, now and then an empty one or one told before."""
    twists = []
    for _ in range(rng.choice((1, 1, 2, 2, 3, 4, 8))):
        size = rng.choice((0, 1, 1, 2, 2, 3))
        lot = rng.sample(range(many), min(size, many))
        twists.append(rng.choice(twists) if twists and rng.random() < 0.2 else lot)
    return twists


def all_numbers(twists):
    """All choices of twists, few ones first, then as tuples."""
    return [told for size in range(len(twists) + 1) for told in combinations(range(len(twists)), size)]


def do(setting, twists, numbers):
    """The setting behind these twists, done one behind another."""
    found = list(setting)
    for number in numbers:
        for mark in twists[number]:
            found[mark] = -found[mark]
    return tuple(found)


def cases(seed, many):
    rng = random.Random(seed)
    for web in webs_with_marks(seed + 1, many):
        if web.marks:
            yield rng, web, any_twists(rng, len(web.marks))


class TestSums(Asking):
    def test_sums_and_bodies(self):
        for rng, web, twists in cases(801, 25):
            body = any_body(rng, web)
            for numbers in rng.sample(all_numbers(twists), min(8, 2 ** len(twists))):
                told = rng.sample(numbers, len(numbers))
                lot = twist_sum(web, tuple(twists), told)
                self.assertEqual(lot, sum_of([twists[number] for number in numbers]))
                found = twisted(body, twists, tuple(told))
                self.assertEqual(found.setting, do(body.setting, twists, numbers))
                self.assertEqual(found.web, web)
                self.assertEqual(twisted(found, twists, numbers), body)

    def test_needless(self):
        for _, web, twists in cases(803, 30):
            asked = []
            for at, lot in enumerate(twists):
                ahead = twists[:at]
                sums = [sum_of([ahead[number] for number in told]) for told in all_numbers(ahead)]
                if tuple(sorted(lot)) in sums:
                    asked.append(at)
            self.assertEqual(needless(web, twists), tuple(asked))
        self.assertEqual(needless(PAIR, [(), (0,), (0,), (1, 0), (1,), ()]), (0, 2, 4, 5))
        self.assertEqual(needless(PAIR, [[1, 0]]), ())

    def test_errors(self):
        body = Body(PAIR, [1, 1])
        calls = [(twist_sum, PAIR, [None]), (twisted, body, [None]), (needless, PAIR, []),
                 (reached, body, []), (joined_sorts, PAIR, []), (are_joined, PAIR, []),
                 (lambda one, twists: led_by(one, body, twists), body, []),
                 (lambda one, twists: fewest_twists(one, body, twists), body, []),
                 (lambda one, twists: shows_led_by(one, body, twists, None), body, [])]
        for call, first, more in calls:
            for twists in BAD_TWISTS:
                self.assert_raises(BadLot("twists"), call, first, twists, *more)
            self.assert_raises(NoMark(2), call, first, [[0], [1, 2, 2, -1]], *more)
            self.assert_raises(NoMark(-1), call, first, [[0, -1, 0], [7]], *more)
            # Lot by lot: what the first one has twice comes ahead of what the second one has not.
            self.assert_raises(Twice(0), call, first, [[0, 1, 0, 1], [7]], *more)
            self.assert_raises(Twice(1), call, first, [[0], (1, 1)], *more)
            self.assert_raises(NoMark(10 ** 30), call, first, [[0], (10 ** 30,)], *more)
        for value in (None, body, "a", 3):
            for call, more in ((twist_sum, [None, None]), (needless, [None]), (joined_sorts, [None]),
                               (are_joined, [None])):
                self.assert_raises(BadWeb("web"), call, value, *more)
        for value in (None, PAIR, "a", 3):
            self.assert_raises(BadBody("body"), twisted, value, None, None)
            self.assert_raises(BadBody("body"), reached, value, None)
            for call, more in ((led_by, []), (fewest_twists, []), (shows_led_by, [None])):
                self.assert_raises(BadBody("one"), call, value, None, None, *more)
                self.assert_raises(BadBody("other"), call, body, value, None, *more)
        for numbers in [*ODD_VALUES, [2], [-1], [0, 0], [0, 1, 0], [True], ["0"], [0, None], {0}, "01"]:
            if numbers not in ((), []) or numbers is False:
                self.assert_raises(BadNumber("numbers"), twist_sum, PAIR, [[0], [1]], numbers)
                self.assert_raises(BadNumber("numbers"), twisted, body, [[0], [1]], numbers)
        self.assertEqual(twist_sum(PAIR, [[0]] * 8, [7, 0, 3]), (0,))
        self.assertEqual(twist_sum(PAIR, [[0], [1]], ()), ())

    def test_errors_behind_the_parameters(self):
        body, far = Body(PAIR, [1, 1]), Body(STAR, [1])
        for call, more in ((led_by, []), (fewest_twists, []), (shows_led_by, [None])):
            self.assert_raises(Misfit("webs"), call, body, far, [[1]], *more)
            self.assert_raises(NoMark(1), call, far, body, [[1]], *more)
            self.assert_raises(Misfit("webs"), call, body, body.with_kind(2, "z"), [[1]], *more)
            for web in (FULL, BUSH, RING_BUSH):
                many = Body(web, [1] * len(web.marks))
                self.assert_raises(TooMany("renamings", 400), call, many, many, [[1]], *more)
                self.assert_raises(Misfit("webs"), call, many, far, [[1]], *more)
                self.assert_raises(BadLot("twists"), call, many, far, [], *more)
        for web in (ELEVEN, TWELVE, cube(4)):
            many = Body(web, [1] * len(web.marks))
            self.assert_raises(TooMany("marks", 10), reached, many, [[0]])
            self.assert_raises(TooMany("marks", 10), joined_sorts, web, [[0]])
            self.assert_raises(TooMany("marks", 10), are_joined, web, [[0]])
            self.assertEqual(twist_sum(web, [[10, 0], [10]], [0, 1]), (0,))
            self.assertIs(bool(led_by(many, many, [[0]])), True)
        # Marks come ahead of renamings, of which a ring of six pairs has 768.
        wide = web_with_all_hubs(12, [(2 * at + k, (2 * at + 2 + j) % 12)
                                      for at in range(6) for k in (0, 1) for j in (0, 1)])
        self.assert_raises(TooMany("marks", 10), reached, Body(wide, [1] * 12), [[0]])
        self.assert_raises(TooMany("marks", 10), joined_sorts, wide, [[0]])
        for web in (FULL, BUSH, RING_BUSH):
            self.assert_raises(TooMany("renamings", 400), reached, Body(web, [1] * len(web.marks)), [[0]])
            self.assert_raises(TooMany("renamings", 400), joined_sorts, web, [[0]])
            self.assert_raises(TooMany("renamings", 400), are_joined, web, [[0]])


class TestLedBy(Asking):
    def test_against_all_sums_and_renamings(self):
        words = []
        for rng, web, twists in cases(805, 30):
            rows = all_rows(web, web)
            for _ in range(3):
                one, other = any_body(rng, web), any_body(rng, web)
                back = {setting for setting in settings(web)
                        if any(leads(web, web, row, setting) == other.setting for row in rows)}
                ways = [numbers for numbers in all_numbers(twists)
                        if do(one.setting, twists, numbers) in back]
                paper, fewest = led_by(one, other, twists), fewest_twists(one, other, tuple(twists))
                self.assertEqual(paper, led_by(one, other, twists))
                self.assertEqual(fewest, fewest_twists(one, other, twists))
                words.append(paper.word)
                if ways:
                    self.assertEqual(fewest.numbers, ways[0])
                    for told in (paper, fewest):
                        self.assertIs(type(told), By)
                        self.assertEqual(list(told.numbers), sorted(set(told.numbers)))
                        turned = Body(web, do(one.setting, twists, told.numbers))
                        self.assertEqual(led(turned, web, told.row), other)
                        self.assertIs(shows_led_by(one, other, twists, told), True)
                    continue
                for told in (paper, fewest):
                    self.check_barred(told, one, other, twists, rows)
        self.assertGreater(min(words.count("by"), words.count("barred")), 20)

    def check_barred(self, paper, one, other, twists, rows):
        self.assertIs(type(paper), Barred)
        self.assertIs(bool(paper), False)
        self.assertEqual([row for row, _ in paper.rows], rows)
        for row, lot in paper.rows:
            unlike = unlike_marks(one, other, row)
            self.assertEqual(list(lot), sorted(set(lot)))
            self.assertEqual(len(set(lot) & set(unlike)) % 2, 1)
            for twist in twists:
                self.assertEqual(len(set(lot) & set(twist)) % 2, 0)
        self.assertIs(shows_led_by(one, other, twists, paper), True)

    def test_the_first_of_the_fewest(self):
        web = web_of(8, cube(3).ties, list(range(4)), [], list("abcdefgh"))
        one, other = Body(web, [1, 1, 1, 1]), Body(web, [-1, -1, -1, -1])
        for twists, asked in (
            ([[0, 1], [2, 3], [0, 2], [1, 3]], (0, 1)),
            ([[0], [1], [2], [3], [0, 1, 2], [3, 1, 2], [0, 3]], (0, 5)),
            ([[0, 1, 2], [3], [2, 3], [0, 1]], (0, 1)),
            ([[], [0, 1], [1, 0], [2, 3]], (1, 3)),
            ([[0, 1, 2, 3], [0, 1, 2, 3]], (0,)),
            ([[2, 3], [0], [], [0, 1], [1]], (0, 3)),
        ):
            self.assertEqual(fewest_twists(one, other, twists).numbers, asked)
        self.assertEqual(fewest_twists(one, one, [[], []]).numbers, ())
        self.assertEqual(fewest_twists(one, other, [[0, 1], [1, 2], [2]]).rows, ((tuple(range(8)), (3,)),))

    def test_short_times(self):
        rng = random.Random(807)
        begun = time.process_time()
        for web in (TEN, DOUBLE, TWELVE, cube(4)):
            many = len(web.marks)
            for twists in ([rng.sample(range(many), 2) for _ in range(8)], [[at] for at in range(8)],
                           [rng.sample(range(many), 6) for _ in range(8)], [[]] * 8):
                one, other = any_body(rng, web), any_body(rng, web)
                paper = led_by(one, other, twists)
                self.assertIs(shows_led_by(one, other, twists, paper), True)
                self.assertIs(bool(fewest_twists(one, other, twists)), bool(paper))
        self.assertLess(time.process_time() - begun, 8)


class TestReached(Asking):
    def test_reached_against_all_sums(self):
        for rng, web, twists in cases(809, 30):
            held = sorts_by_trying(web)
            for _ in range(3):
                body = any_body(rng, web)
                found = {held[do(body.setting, twists, numbers)][0] for numbers in all_numbers(twists)}
                self.assertEqual(reached(body, twists), tuple(sorted(found)))
                self.assertIn(held[body.setting][0], found)

    def test_joined_step_by_step(self):
        joined = []
        for rng, web, twists in cases(811, 40):
            held = sorts_by_trying(web)
            lots = []
            left = set(settings(web))
            while left:
                met = [min(left)]
                for setting in met:
                    further = held[setting] + [do(setting, twists, [at]) for at in range(len(twists))]
                    met += [told for told in sorted(set(further)) if told not in met]
                left -= set(met)
                lots.append(tuple(sorted({held[setting][0] for setting in met})))
            self.assertEqual(joined_sorts(web, twists), tuple(lots))
            self.assertIs(are_joined(web, twists), len(lots) == 1)
            joined.append(len(lots) == 1)
            # Numbered anew, the lots join as many sorts.
            row = any_row(rng, len(web))
            other = web.renumbered(row)
            back = {piece: at for at, piece in enumerate(row)}
            images = [other.marks.index(back[hub]) for hub in web.hubs]
            images += [other.marks.index(tuple(sorted((back[low], back[high])))) for low, high in web.stiff]
            anew = [[images[mark] for mark in lot] for lot in twists]
            self.assertEqual(sorted(map(len, joined_sorts(other, anew))), sorted(map(len, lots)))
        self.assertGreater(min(joined.count(True), joined.count(False)), 20)

    def test_the_last_fact(self):
        met = 0
        for _, web, twists in cases(813, 40):
            if all(len(lot) % 2 == 0 for lot in twists) and are_joined(web, twists):
                turned = [sum(leads(web, web, row, (1,) * len(web.marks))[at] == -1
                              for at in range(len(web.marks))) for row in all_rows(web, web)]
                self.assertTrue(any(many % 2 for many in turned))
                met += 1
        self.assertGreater(met, 1)

    def test_no_marks(self):
        web = web_of(2, [(0, 1)])
        self.assertEqual(reached(Body(web, []), [[]]), ((),))
        self.assertEqual(joined_sorts(web, [[], []]), (((),),))
        self.assertIs(are_joined(web, [()]), True)
        self.assertEqual(led_by(Body(web, []), Body(web, []), [[]]), By((), (0, 1)))

    def test_short_times(self):
        rng = random.Random(815)
        begun = time.process_time()
        for web in (TEN, DOUBLE):
            twists = [rng.sample(range(10), 2) for _ in range(8)]
            lots = joined_sorts(web, twists)
            body = any_body(rng, web)
            found = reached(body, twists)
            self.assertTrue(any(set(found) <= set(lot) for lot in lots))
            self.assertIs(are_joined(web, [[]] * 8), False)
            self.assertEqual([len(lot) for lot in joined_sorts(web, [[]])], [1] * len(sorts(web)))
        self.assertLess(time.process_time() - begun, 5)


class TestChecks(Asking):
    def test_any_numbers_and_rows(self):
        told = []
        for rng, web, twists in cases(821, 12):
            twists = twists[:4]
            one, other = any_body(rng, web), any_body(rng, web)
            rows = all_rows(web, web)
            for numbers in all_numbers(twists):
                for row in rng.sample(rows, min(3, len(rows))):
                    right = led(Body(web, do(one.setting, twists, numbers)), web, row) == other
                    self.assertIs(shows_led_by(one, other, twists, By(list(numbers), list(row))), right)
                    told.append(right)
        self.assertGreater(min(told.count(True), told.count(False)), 40)

    def test_any_lots(self):
        one, other = Body(PAIR, [1, 1]), Body(PAIR, [1, -1])
        three = web_of(8, cube(3).ties, list(range(3)), [], list("abcdefgh"))
        first, second = Body(three, [1, 1, 1]), Body(three, [-1, 1, 1])
        lots = [(), (0,), (1,), (2,), (0, 1), (0, 2), (1, 2), (0, 1, 2)]
        for twists in ([[1]], [[0, 1]], [[1, 2]], [[0, 1], [1, 2]], [[]]):
            for lot in lots:
                right = len({0} & set(lot)) == 1 and all(len(set(lot) & set(told)) % 2 == 0 for told in twists)
                paper = Barred([[list(range(8)), list(lot)]])
                self.assertIs(shows_led_by(first, second, twists, paper), right)
        for lot in ((0, 1, 1), (1, 0), (0, 1, 3), (-1, 0), (True,), (False, 1), (0.0, 1), "0", None, 0):
            paper = Barred([[list(range(8)), lot]])
            self.assertIs(shows_led_by(first, second, [[0, 1]], paper), False)
        rows = led_by(one, other, [(0, 1)]).rows
        self.assertEqual(len(rows), 2)
        for bent in [rows[::-1], rows[:1], rows[1:], rows + rows[:1], rows[:1] * 2, ()]:
            self.assertIs(shows_led_by(one, other, [(0, 1)], Barred(bent)), False)

    def test_bent_papers(self):
        one, other = Body(PAIR, [1, 1]), Body(PAIR, [1, -1])
        twists = [(0,), (1,), (0, 1)]
        paper = By((1,), (0, 1, 2, 3, 4, 5))
        self.assertIs(shows_led_by(one, other, twists, paper), True)
        for bent in bent_values(paper.numbers):
            right = bent in ((0, 2),)
            self.assertIs(shows_led_by(one, other, twists, By(bent, paper.row)), right, bent)
        for bent in bent_values(paper.row):
            self.assertIs(shows_led_by(one, other, twists, By((1,), bent)), False)
        self.assertIs(shows_led_by(one, other, twists, By((0, 2), paper.row)), True)
        self.assertIs(shows_led_by(one, other, twists, By((2, 0), paper.row)), False)
        self.assertIs(shows_led_by(one, other, twists, By((1, 1, 1), paper.row)), False)
        rows = led_by(one, other, [(0, 1)]).rows
        for bent in bent_values(rows):
            self.assertIs(shows_led_by(one, other, [(0, 1)], Barred(bent)), is_barring(bent, rows), bent)

    def test_any_value(self):
        one, other, row = Body(PAIR, [1, 1]), Body(PAIR, [1, -1]), (0, 1, 2, 3, 4, 5)
        rows = led_by(one, other, [(0, 1)]).rows
        papers = [Paper("by", (1,), row), Denial("barred", rows), Denial("by", (1,), row)]
        for value in [*ODD_VALUES, *papers, one, rows, By, Barred]:
            self.assertIs(shows_led_by(one, other, [(1,)], value), False)
            self.assertIs(shows_led_by(one, other, [(0, 1)], value), False)
            self.assertIs(shows_led_by(one, other, [(1,)], By(value, row)), False)
            self.assertIs(shows_led_by(one, other, [(1,)], By((0,), value)), value == row)
            self.assertIs(shows_led_by(one, other, [(0, 1)], Barred(value)), value == rows)

        class FakeBy(By):
            pass

        class FakeBarred(Barred):
            pass

        self.assertIs(shows_led_by(one, other, [(1,)], FakeBy((0,), row)), False)
        self.assertIs(shows_led_by(one, other, [(0, 1)], FakeBarred(rows)), False)
        for value in same_named(By((0,), row)):
            self.assertIs(shows_led_by(one, other, [(1,)], value), False)
        for value in same_named(Barred(rows)):
            self.assertIs(shows_led_by(one, other, [(0, 1)], value), False)


def is_barring(value, rows):
    """Whether a value is right where the lots (0, 1) and (0, 1) are, told of the twist 0 1."""
    if not isinstance(value, tuple) or len(value) != len(rows):
        return False
    for told, (row, lot) in zip(value, rows):
        if repr(told) != repr((row, lot)):
            return False
    return True


if __name__ == "__main__":
    unittest.main()
