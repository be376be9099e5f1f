"""Marks to turn, and neighbours that change their seats, against trying all lots and renamings."""

import random
import time
import unittest
from itertools import combinations

from otherhand.bodies import Body
from otherhand.check_twists import shows_turns
from otherhand.errors import BadBody, BadRow, BadWeb, Misfit, NoMark, NoPiece, TooMany, Twice
from otherhand.leading import led
from otherhand.papers import Paper
from otherhand.pictures import picture_of
from otherhand.refusing import Led
from otherhand.sameness import same
from otherhand.turnings import Turns, exchanged, farthest, fewest_turns, unlike_marks
from otherhand.webs import Web
from tests.helping import NO_INTEGERS, ODD_VALUES, Asking, bent_values, same_named
from tests.oracle import (
    all_rows, any_body, any_setting, leads, like_arms, like_halves, neighbours, rows_leading, settings,
    some_webs, sorts_by_trying, web_by_chance, web_of, web_with_all_hubs,
)
from tests.test_counting import BUSH, RING_BUSH
from tests.test_renamings import cube
from tests.test_sorts import DOUBLE, FULL, STAR, TEN, TWELVE

PAIR = Web(["c", "c", "a", "b", "a", "b"], [(0, 1), (0, 2), (0, 3), (1, 4), (1, 5)], [0, 1], [])


def webs_with_marks(seed, many, most_marks=4):
    """Webs with marks, and with renamings that move them."""
    rng = random.Random(seed)
    webs = some_webs(seed + 1, 2 * many, most=8, kinds="a", loops=2)
    while len(webs) < 4 * many:
        shape = like_arms(rng, 10) if rng.random() < 0.5 else like_halves(rng, 10)
        web = web_by_chance(rng, *shape, rng.choice((0.7, 1)), rng.choice((0, 0.5, 1)))
        if web is not None and web.marks:
            webs.append(web)
    return [web for web in webs if len(web.marks) <= most_marks and len(all_rows(web, web)) <= 400]


def all_lots(many):
    """All lots of so many marks, few ones first, then as tuples."""
    return [lot for size in range(many + 1) for lot in combinations(range(many), size)]


class TestUnlikeMarks(Asking):
    def test_against_leading(self):
        rng = random.Random(701)
        for web in webs_with_marks(702, 30):
            rows = all_rows(web, web)
            for row in rng.sample(rows, min(4, len(rows))):
                one, other = any_body(rng, web), any_body(rng, web)
                lot = unlike_marks(one, other, list(row))
                self.assertEqual(led(one.turned(lot), web, row), other)
                self.assertEqual(list(lot), sorted(set(lot)))
                self.assertIs(type(lot), tuple)
                self.assertEqual(unlike_marks(led(one, web, row), one, tuple(range(len(web)))),
                                 tuple(mark for mark in range(len(web.marks))
                                       if leads(web, web, row, one.setting)[mark] != one.setting[mark]))

    def test_errors(self):
        one = Body(STAR, [1])
        far = Body(PAIR, [1, 1])
        for value in (None, STAR, "a", 3):
            self.assert_raises(BadBody("one"), unlike_marks, value, None, None)
            self.assert_raises(BadBody("other"), unlike_marks, one, value, None)
        for row in [(0, 1, 2), (1, 0, 2, 3), (0, True, 2, 3), *ODD_VALUES]:
            self.assert_raises(BadRow("row"), unlike_marks, one, one, row)
            self.assert_raises(BadRow("row"), unlike_marks, one, far, row)
        self.assert_raises(BadRow("row"), unlike_marks, one, far, (1, 0, 4, 5, 2, 3))
        self.assert_raises(Misfit("webs"), unlike_marks, one, far, [0, 1, 2, 3])
        self.assert_raises(Misfit("webs"), unlike_marks, one, one.with_kind(1, "z"), [0, 1, 2, 3])
        many = Body(FULL, [1] * 8)
        self.assertEqual(unlike_marks(many, many.turned([3, 1]), list(range(8))), (1, 3))


class TestFewestTurns(Asking):
    def test_against_all_lots_and_renamings(self):
        rng = random.Random(703)
        sizes = []
        for web in webs_with_marks(704, 30):
            for _ in range(3):
                one, other = any_body(rng, web), any_body(rng, web)
                asked = next(lot for lot in all_lots(len(web.marks)) if rows_leading(one.turned(lot), other))
                paper = fewest_turns(one, other)
                self.assertIs(type(paper), Turns)
                self.assertEqual(paper.lot, asked)
                self.assertIn(paper.row, rows_leading(one.turned(asked), other))
                self.assertEqual(paper, fewest_turns(one, other))
                self.assertIs(shows_turns(one, other, paper), True)
                self.assertEqual(len(fewest_turns(other, one).lot), len(asked))
                self.assertEqual(len(fewest_turns(one.mirrored(), other.mirrored()).lot), len(asked))
                self.assertIs(asked == (), same(one, other).word == "one")
                third = any_body(rng, web)
                by_way = len(fewest_turns(one, third).lot) + len(fewest_turns(third, other).lot)
                self.assertGreaterEqual(by_way, len(asked))
                sizes.append(len(asked))
        self.assertGreater(min(sizes.count(0), sizes.count(1), sizes.count(2)), 8)

    def test_errors(self):
        one, far = Body(STAR, [1]), Body(PAIR, [1, 1])
        for value in (None, STAR, "a", 3):
            for call, more in ((fewest_turns, []), (shows_turns, [None])):
                self.assert_raises(BadBody("one"), call, value, None, *more)
                self.assert_raises(BadBody("other"), call, one, value, *more)
        # All renamings count, for a tree with one way to place its core, too.
        for web in (FULL, BUSH, RING_BUSH):
            body = Body(web, [1] * len(web.marks))
            for call, more in ((fewest_turns, []), (shows_turns, [None])):
                self.assert_raises(TooMany("renamings", 400), call, body, body, *more)
                self.assert_raises(Misfit("webs"), call, body, far, *more)
        for call, more in ((fewest_turns, []), (shows_turns, [None])):
            self.assert_raises(Misfit("webs"), call, one, far, *more)

    def test_short_times(self):
        rng = random.Random(705)
        begun = time.process_time()
        for web in (TEN, DOUBLE, TWELVE, cube(4)):
            one, other = any_body(rng, web), any_body(rng, web)
            paper = fewest_turns(one, other)
            self.assertEqual(led(one.turned(paper.lot), web, paper.row), other)
            self.assertIs(shows_turns(one, other, paper), True)
        self.assertLess(time.process_time() - begun, 5)


class TestFarthest(Asking):
    def test_against_trying(self):
        greatest = []
        for web in webs_with_marks(707, 25, 5):
            held = sorts_by_trying(web)
            own = sorted({found[0] for found in held.values()})
            best = (0, own[0], own[0])
            for one in own:
                for other in own:
                    fewest = min(sum(a != b for a, b in zip(one, told)) for told in held[other])
                    if one < other and fewest > best[0]:
                        best = (fewest, one, other)
            self.assertEqual(farthest(web), best)
            greatest.append(best[0])
        self.assertGreater(min(greatest.count(many) for many in (0, 1, 2)), 3)
        self.assertEqual(farthest(web_of(1, [])), (0, (), ()))
        self.assertEqual(farthest(STAR), (0, (-1,), (-1,)))

    def test_bounds(self):
        six = web_of(8, cube(3).ties, list(range(6)), [], list("abcdefgh"))
        self.assertEqual(farthest(six), (6, (-1,) * 6, (1,) * 6))
        seven = web_of(8, cube(3).ties, list(range(7)))
        self.assert_raises(TooMany("marks", 6), farthest, seven)
        self.assert_raises(TooMany("marks", 6), farthest, FULL)
        self.assert_raises(TooMany("renamings", 400), farthest, BUSH)
        self.assert_raises(TooMany("renamings", 400), farthest, web_of(8, FULL.ties))
        for value in (None, Body(STAR, [1]), "a", 3):
            self.assert_raises(BadWeb("web"), farthest, value)


class TestExchanged(Asking):
    def test_hubs_of_three_and_four(self):
        rng = random.Random(709)
        for web in some_webs(710, 60, most=8, kinds="aab", hubs=1):
            body = any_body(rng, web)
            for at, hub in enumerate(web.hubs):
                near = neighbours(web, hub)
                one, other = rng.sample(near, 2)
                found = exchanged(body, hub, one, other)
                self.assertEqual(found, body.turned([at]))
                self.assertEqual(exchanged(found, hub, other, one), body)
                self.assertEqual(picture_of(body).exchanged(hub, one, other).body(), found)
                third = rng.choice([piece for piece in near if piece not in (one, other)])
                # If three go round, nothing is turned.
                self.assertEqual(exchanged(found, hub, one, third), body)

    def test_errors(self):
        body = Body(STAR, [1])
        for value in (None, STAR, "a", 3):
            self.assert_raises(BadBody("body"), exchanged, value, None, None, None)
        for value in (1, 3, 4, -1, 10 ** 30, *NO_INTEGERS):
            self.assert_raises(NoMark(value), exchanged, body, value, None, None)
        for value in (0, 4, -1, 10 ** 30, *NO_INTEGERS):
            self.assert_raises(NoPiece(value), exchanged, body, 0, value, None)
            self.assert_raises(NoPiece(value), exchanged, body, 0, 1, value)
        self.assert_raises(NoPiece(0), exchanged, body, 0, 0, 0)
        self.assert_raises(Twice(3), exchanged, body, 0, 3, 3)


class TestChecks(Asking):
    def test_all_lots_and_rows(self):
        rng = random.Random(711)
        told = []
        for web in webs_with_marks(712, 8, 3):
            one, other = any_body(rng, web), Body(web, any_setting(rng, web))
            fewest = len(fewest_turns(one, other).lot)
            rows = all_rows(web, web)
            for lot in all_lots(len(web.marks)):
                for row in rng.sample(rows, min(6, len(rows))):
                    right = len(lot) == fewest and led(one.turned(lot), web, row) == other
                    self.assertIs(shows_turns(one, other, Turns(list(lot), list(row))), right)
                    told.append(right)
        self.assertGreater(min(told.count(True), told.count(False)), 20)

    def test_bent_papers(self):
        one, other = Body(PAIR, [1, 1]), Body(PAIR, [-1, 1])
        for paper in (fewest_turns(one, other), fewest_turns(one, one), fewest_turns(one, one.mirrored())):
            target = {1: other, 0: one, 2: one.mirrored()}[len(paper.lot)]
            self.assertIs(shows_turns(one, target, paper), True)
            for bent in bent_values(paper.lot):
                self.assertIs(shows_turns(one, target, Turns(bent, paper.row)), False, bent)
            for bent in bent_values(paper.row):
                self.assertIs(shows_turns(one, target, Turns(paper.lot, bent)), False, bent)
        # The other renaming has the other mark.
        self.assertIs(shows_turns(one, other, Turns([1], [1, 0, 4, 5, 2, 3])), True)
        self.assertIs(shows_turns(one, other, Turns([0], [1, 0, 4, 5, 2, 3])), False)
        self.assertIs(shows_turns(one, one.mirrored(), Turns([1, 0], range_of(6))), False)

    def test_any_value(self):
        one, row = Body(STAR, [1]), (0, 1, 2, 3)
        for value in [*ODD_VALUES, one, row, Turns, Paper("turns", (), row), Led(row)]:
            self.assertIs(shows_turns(one, one, value), False)
            self.assertIs(shows_turns(one, one, Turns(value, row)), value in ((), []) and value is not False)
            self.assertIs(shows_turns(one, one, Turns((), value)), value == row)

        class FakeTurns(Turns):
            pass

        self.assertIs(shows_turns(one, one, FakeTurns((), row)), False)
        for value in same_named(Turns((), row)):
            self.assertIs(shows_turns(one, one, value), False)
        # Two like ends exchanged turn the hand: so no mark is to be turned.
        self.assertIs(shows_turns(one, one.mirrored(), Turns((), (0, 2, 1, 3))), True)
        self.assertIs(shows_turns(one, one.mirrored(), Turns((0,), row)), False)


def range_of(many):
    return list(range(many))


if __name__ == "__main__":
    unittest.main()
