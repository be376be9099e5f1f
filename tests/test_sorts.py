"""Least forms and sorts, against a listing of all settings on small webs."""

import random
import time
import unittest

from otherhand.bodies import Body
from otherhand.errors import BadBody, BadNumber, BadWeb, NoMark, TooMany
from otherhand.leastforms import least_body, least_setting, like_settings, same_sort
from otherhand.papers import Paper
from otherhand.sameness import same
from otherhand.sorts import (
    Sway, counts, mirrorlike_sorts, number_of_sort, pairs_of, sort_at, sorts, sway,
)
from otherhand.webs import Web
from tests.helping import NO_INTEGERS, Asking
from tests.oracle import (
    any_row, any_setting, mirror, settings, some_webs, sorts_by_trying, web_of, web_with_all_hubs,
)
from tests.test_renamings import cube

RING = [(at, (at + 1) % 10) for at in range(10)]
TEN = web_with_all_hubs(10, RING + [(at, at + 5) for at in range(5)])
# Ten hubs, 320 renamings, and each of them leads the core.
DOUBLE = web_with_all_hubs(10, [(2 * at + k, (2 * at + 2 + j) % 10)
                                for at in range(5) for k in (0, 1) for j in (0, 1)])
LINE = [(at, at + 1) for at in range(11)]
ELEVEN = web_of(12, [(at, (at + 1) % 12) for at in range(12)] + [(at, at + 6) for at in range(6)],
                list(range(11)))
TWELVE = web_with_all_hubs(12, [(at, (at + 1) % 12) for at in range(12)]
                           + [(at, at + 6) for at in range(6)])
FULL = web_with_all_hubs(8, [(at, 4 + to) for at in range(4) for to in range(4)])
FULL_AND_MORE = web_of(11, list(FULL.ties[1:]) + [(0, 8), (4, 9), (9, 10)], list(range(8)))
STAR = web_of(4, [(0, 1), (0, 2), (0, 3)], [0])
# Webs with marks that count in some bodies only.
BORROWED = [
    "a a* a a a a a a : 0 5 / 1 2 / 1 3 / 1 6 / 3 = 5 / 4 = 6 / 4 7",
    "a a a a a a a : 0 = 2 / 0 5 / 1 2 / 1 = 3 / 3 5 / 4 = 5 / 4 6",
    "b a b b b* a b b : 0 7 / 1 4 / 1 = 6 / 2 6 / 3 4 / 4 5 / 5 = 7",
    "a a a a* a a a* a a : 0 6 / 1 3 / 1 = 7 / 2 = 5 / 2 7 / 3 4 / 3 5 / 3 6 / 6 8",
]
WEB_CALLS = [(sorts, []), (mirrorlike_sorts, []), (pairs_of, []), (sort_at, [None]),
             (number_of_sort, [None]), (sway, [None]), (same_sort, [None, None])]


class TestAgainstTrying(Asking):
    def test_all(self):
        rng = random.Random(101)
        hows = []
        webs = some_webs(102, 120, most=8, kinds="aab")
        webs += some_webs(103, 40, most=8, kinds="a", stiff=1, hubs=0.5)
        webs += some_webs(100, 60, most=9, kinds="ab", loops=0, hubs=1)
        webs.append(web_of(8, [(0, 1), (1, 2), (0, 3), (2, 4), (0, 5), (1, 6), (2, 7)], [0, 1, 2],
                           kinds=list("ccceeuuu")))
        webs += [Web.read(text) for text in BORROWED]
        for web in webs:
            if len(web.marks) > 6:
                continue
            held = sorts_by_trying(web)
            own = sorted({found[0] for found in held.values()})
            self.assertEqual(list(sorts(web)), own)
            mirrorlike = [sort for sort in own if mirror(web, sort) in held[sort]]
            self.assertEqual(list(mirrorlike_sorts(web)), mirrorlike)
            pairs = sorted({tuple(sorted((sort, held[mirror(web, sort)][0]))) for sort in own
                            if sort not in mirrorlike})
            self.assertEqual(list(pairs_of(web)), pairs)
            self.assertEqual([sort_at(web, at) for at in range(len(own))], own)
            self.check_settings(rng, web, held, own)
            for mark in range(len(web.marks)):
                hows.append(self.check_sway(web, mark, held))
        for how, many in (("firm", 20), ("borrowed", 3), ("idle", 20)):
            self.assertGreater(hows.count(how), many, how)

    def check_settings(self, rng, web, held, own):
        for setting in rng.sample(settings(web), min(6, len(held))):
            body = Body(web, list(setting))
            self.assertEqual(list(like_settings(body)), held[setting])
            self.assertEqual(least_setting(body), held[setting][0])
            self.assertEqual(least_body(body), Body(web, held[setting][0]))
            self.assertEqual(number_of_sort(web, list(setting)), own.index(held[setting][0]))
            other = any_setting(rng, web)
            self.assertIs(same_sort(web, setting, list(other)), other in held[setting])
            for mark in range(len(web.marks)):
                turned = body.turned([mark]).setting
                self.assertIs(counts(body, mark), turned not in held[setting])

    def check_sway(self, web, mark, held):
        def does_count(setting):
            return Body(web, setting).turned([mark]).setting not in held[setting]

        told = [does_count(setting) for setting in held]
        paper = sway(web, mark)
        self.assertEqual(paper, sway(web, mark))
        self.assertIsInstance(paper, Sway)
        self.assertEqual(paper.how, "firm" if all(told) else "borrowed" if any(told) else "idle")
        self.assertIs(paper.counting is None, not any(told))
        self.assertIs(paper.lacking is None, all(told))
        if paper.counting is not None:
            self.assertIs(does_count(paper.counting), True)
        if paper.lacking is not None:
            self.assertIs(does_count(paper.lacking), False)
        return paper.how

    def test_no_marks(self):
        web = web_of(1, [])
        self.assertEqual((sorts(web), mirrorlike_sorts(web), pairs_of(web)), (((),), ((),), ()))
        self.assertEqual((sort_at(web, 0), number_of_sort(web, ())), ((), 0))
        self.assertEqual(like_settings(Body(web, [])), ((),))
        self.assertIs(same_sort(web, [], ()), True)

    def test_numbered_anew(self):
        rng = random.Random(104)
        for web in some_webs(105, 40):
            other = web.renumbered(any_row(rng, len(web)))
            self.assertEqual(len(sorts(web)), len(sorts(other)))
            self.assertEqual(len(mirrorlike_sorts(web)), len(mirrorlike_sorts(other)))


class TestBounds(Asking):
    def test_ten_marks_take_a_short_time(self):
        begun = time.process_time()
        for web, renamings_of_web in ((TEN, 20), (DOUBLE, 320)):
            self.assertEqual(len(web.marks), 10)
            found = sorts(web)
            self.assertGreaterEqual(len(found) * renamings_of_web, 1024)
            mirrored = mirrorlike_sorts(web)
            self.assertEqual(len(mirrored) + 2 * len(pairs_of(web)), len(found))
            self.assertEqual(sort_at(web, len(found) - 1), found[-1])
            self.assertEqual(number_of_sort(web, found[-1]), len(found) - 1)
            sizes = [len(like_settings(Body(web, sort))) for sort in found]
            self.assertEqual(sum(sizes), 1024)
            self.assertTrue(all(renamings_of_web % size == 0 for size in sizes))
            paper = sway(web, 9)
            body = Body(web, found[0])
            self.assertIs(counts(body, 9), same(body, body.turned([9])).word != "one")
            self.assertIn(paper.how, ("firm", "borrowed", "idle"))
        self.assertLess(time.process_time() - begun, 20)

    def test_eleven_marks(self):
        for web, many in ((ELEVEN, 11), (TWELVE, 12)):
            self.assertEqual(len(web.marks), many)
            for call in (sorts, mirrorlike_sorts, pairs_of):
                self.assert_raises(TooMany("marks", 10), call, web)
            self.assert_raises(TooMany("marks", 10), sort_at, web, None)
            self.assert_raises(TooMany("marks", 10), number_of_sort, web, [1] * many)
            self.assert_raises(TooMany("marks", 10), sway, web, 0)
            body = Body(web, [1] * many)
            for call in (like_settings, least_setting, least_body):
                self.assert_raises(TooMany("marks", 10), call, body)
            self.assertIs(same_sort(web, [1] * many, [1] * many), True)
            self.assertIn(counts(body, many - 1), (True, False))
        self.assertIs(same_sort(cube(4), [1] * 16, [1] * 16), True)

    def test_too_many_ways_to_place_the_core(self):
        body = Body(FULL, [1] * 8)
        for call in (sorts, mirrorlike_sorts, pairs_of):
            self.assert_raises(TooMany("renamings", 400), call, FULL)
        self.assert_raises(TooMany("renamings", 400), sort_at, FULL, None)
        self.assert_raises(TooMany("renamings", 400), number_of_sort, FULL, [1] * 8)
        self.assert_raises(TooMany("renamings", 400), sway, FULL, 7)
        self.assert_raises(TooMany("renamings", 400), counts, body, 7)
        self.assert_raises(TooMany("renamings", 400), same_sort, FULL, [1] * 8, [1] * 8)
        for call in (like_settings, least_setting, least_body):
            self.assert_raises(TooMany("renamings", 400), call, body)
        # Marks come ahead of renamings.
        wide = web_with_all_hubs(12, [(2 * at + k, (2 * at + 2 + j) % 12)
                                      for at in range(6) for k in (0, 1) for j in (0, 1)])
        self.assert_raises(TooMany("marks", 10), sorts, wide)
        self.assert_raises(TooMany("renamings", 400), counts, Body(wide, [1] * 12), 0)
        self.assertEqual(len(sorts(FULL_AND_MORE)) > 1, True)

    def test_many_renamings_and_one_way_to_place_the_core(self):
        bush = web_with_all_hubs(13, [(0, 1), (0, 2), (0, 3)]
                                 + [(1 + at // 3, 4 + at) for at in range(9)])
        self.assertEqual(sorts(bush), ((-1, -1, -1, -1),))
        self.assertEqual(len(like_settings(Body(bush, [1, 1, 1, 1]))), 16)
        self.assertEqual([sway(bush, at).how for at in range(4)], ["idle"] * 4)
        self.assertIs(same_sort(bush, [1, 1, -1, 1], [-1, 1, 1, 1]), True)

    def test_errors(self):
        body = Body(STAR, [1])
        for value in (None, body, "a", 3):
            for call, more in WEB_CALLS:
                self.assert_raises(BadWeb("web"), call, value, *more)
        for value in (None, STAR, "a", 3):
            for call in (like_settings, least_setting, least_body):
                self.assert_raises(BadBody("body"), call, value)
            self.assert_raises(BadBody("body"), counts, value, None)
        for value in (None, 1, "1", [], [1, 1], [0], [True], {}, [[1]]):
            self.assert_raises(BadBody("setting"), number_of_sort, STAR, value)
            self.assert_raises(BadBody("one"), same_sort, STAR, value, None)
            self.assert_raises(BadBody("other"), same_sort, STAR, [1], value)
        self.assertEqual(len(sorts(STAR)), 1)
        for value in (1, -1, 10 ** 30, *NO_INTEGERS):
            self.assert_raises(BadNumber("number"), sort_at, STAR, value)
            self.assert_raises(NoMark(value), counts, body, value)
            self.assert_raises(NoMark(value), sway, STAR, value)
        self.assert_raises(NoMark(12), sway, TWELVE, 12)
        self.assert_raises(BadBody("setting"), number_of_sort, TWELVE, [1] * 11)

    def test_sway_is_a_paper(self):
        paper = sway(STAR, 0)
        self.assertIsInstance(paper, Paper)
        self.assertEqual((paper.word, paper.how, paper.counting), ("sway", "idle", None))
        self.assertEqual(paper.parts, (paper.how, paper.counting, paper.lacking))


if __name__ == "__main__":
    unittest.main()
