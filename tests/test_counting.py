"""How many sorts there are, against listings of all settings and all rows of images."""

import random
import time
import unittest
from math import comb

from otherhand.bodies import Body
from otherhand.check_sorts import shows_means, shows_sway
from otherhand.counting import Means, all_handless, by_codes, many_mirrorlike, many_sorts, means
from otherhand.errors import BadWeb, NoMark, TooMany
from otherhand.papers import Paper
from otherhand.refusing import Led
from otherhand.sorts import Sway, mirrorlike_sorts, sorts, sway
from otherhand.webs import Web
from tests.helping import NO_INTEGERS, ODD_VALUES, Asking, bent_values, same_named
from tests.oracle import (
    all_rows, leads, like_arms, like_halves, mirror, settings, some_webs, sorts_by_trying, web_by_chance,
    web_of, web_with_all_hubs,
)
from tests.test_renamings import cube
from tests.test_sorts import BORROWED, DOUBLE, ELEVEN, FULL, STAR, TEN, TWELVE

# A loop of three with branches that have 6 * 6 ** 3 renamings, and one way to place each.
RING_BUSH = web_with_all_hubs(15, [(0, 1), (1, 2), (0, 2)] + [(at, 3 + at) for at in range(3)]
                              + [(3 + at // 3, 6 + at) for at in range(9)])
BUSH = web_with_all_hubs(13, [(0, 1), (0, 2), (0, 3)] + [(1 + at // 3, 4 + at) for at in range(9)])
# A comb of six hubs: nothing is like anything in it but its two halves.
COMB = web_with_all_hubs(14, [(at, at + 1) for at in range(5)] + [(0, 6), (0, 7), (5, 8), (5, 9)]
                         + [(at, 9 + at) for at in range(1, 5)])
BY_LISTING = (many_sorts, many_mirrorlike, all_handless)


def small_webs():
    """Webs with few marks: any, with sides alone, with loops."""
    webs = some_webs(201, 150, most=8, kinds="aab")
    webs += some_webs(202, 60, most=8, kinds="a", stiff=1, hubs=0)
    webs += some_webs(203, 60, most=7, kinds="a", loops=4, hubs=1)
    webs += some_webs(204, 100, most=9, kinds="a", loops=0)
    webs += [Web.read(text) for text in BORROWED]
    return [web for web in webs if len(web.marks) <= 5]


class TestAgainstListing(Asking):
    def test_means_and_sorts(self):
        handless = []
        for web in small_webs():
            rows = all_rows(web, web)
            held = sorts_by_trying(web)
            own = {found[0] for found in held.values()}
            mirrorlike = {sort for sort in own if mirror(web, sort) in held[sort]}
            self.assertEqual(many_sorts(web), len(own))
            self.assertEqual(many_mirrorlike(web), len(mirrorlike))
            self.assertIs(all_handless(web), own == mirrorlike)
            handless.append(own == mirrorlike)
            if web.is_tree:
                self.assertEqual(by_codes(web), (len(own), len(mirrorlike)))
            else:
                self.assert_raises(BadWeb("tree"), by_codes, web)
            if len(rows) <= 48:
                self.check_means(web, rows)
        self.assertGreater(min(handless.count(True), handless.count(False)), 20)

    def check_means(self, web, rows):
        told = []
        for row in rows:
            led = {one: leads(web, web, row, one) for one in settings(web)}
            kept = sum(led[one] == one for one in led)
            told.append((row, kept, sum(led[one] == mirror(web, one) for one in led)))
        paper = means(web)
        self.assertIs(type(paper), Means)
        self.assertEqual(paper.rows, tuple(told))
        self.assertEqual(paper, means(web))
        self.assertIs(shows_means(web, paper), True)
        self.assertEqual(sum(kept for _, kept, _ in told), many_sorts(web) * len(rows))
        self.assertEqual(sum(kept for _, _, kept in told), many_mirrorlike(web) * len(rows))

    def test_arms_and_halves(self):
        rng = random.Random(205)
        met = [0] * 6
        for _ in range(1500):
            shape = like_arms(rng) if rng.random() < 0.6 else like_halves(rng)
            web = web_by_chance(rng, *shape, rng.choice((0.5, 1)), rng.choice((0, 0.5, 1)))
            if web is None:
                continue
            pair = (len(sorts(web)), len(mirrorlike_sorts(web)))
            self.assertEqual(by_codes(web), pair)
            self.assertEqual((many_sorts(web), many_mirrorlike(web)), pair)
            met[0] += len(web.hubs) > 2
            met[1] += len(web.stiff) > 2
            met[2] += pair[0] > 10
            met[3] += 0 < pair[1] < pair[0]
            met[4] += bool(web.hubs) and bool(web.stiff)
            met[5] += pair[1] == 0
        self.assertGreater(min(met), 20, met)

    def test_halves_by_hand(self):
        # Two pieces with a hub each: a plain tie between them, then a stiff one.
        kinds = ["x", "x"] + ["h", "h"] + [kind for kind in "pqpq"]
        ties = [(0, 1), (0, 2), (1, 3), (2, 4), (2, 5), (3, 6), (3, 7)]
        plain = Web(kinds, ties, [2, 3], [])
        # Two codes each, mirrored, without order: LL, LR, RR; and LR is mirrorlike.
        self.assertEqual(by_codes(plain), (3, 1))
        stiff = Web(kinds, ties, [2, 3], [(0, 1)])
        self.assertEqual(by_codes(stiff), (6, 2))
        both = Web(["x", "x", "a", "a", "a", "a"], [(0, 1), (0, 2), (0, 3), (1, 4), (1, 5)], [], [(0, 1)])
        self.assertEqual(by_codes(both), (1, 1))
        apart = Web(["x", "x", "a", "b", "a", "b"], [(0, 1), (0, 2), (0, 3), (1, 4), (1, 5)], [], [(0, 1)])
        self.assertEqual(by_codes(apart), (2, 2))

    def test_mirrored_pairs_at_stiff_ties(self):
        # At each end of a stiff tie two like hubs: one with each hand is a mirrored pair.
        ties = [(0, 1)]
        for end in (0, 1):
            for _ in range(2):
                first = 2 + 3 * (len(ties) // 3)
                ties += [(end, first), (first, first + 1), (first, first + 2)]
        arms = ["h", "a", "b"] * 4
        hubs = [2, 5, 8, 11]
        # Three choices at each end, two of them unlike: no, one with two sides, no.
        asked = {("x", "x", False): (6, 2), ("x", "y", False): (9, 1),
                 ("x", "x", True): (7, 3), ("x", "y", True): (10, 2)}
        for (one, other, is_stiff), pair in asked.items():
            web = Web([one, other, *arms], ties, hubs, [(0, 1)] if is_stiff else [])
            self.assertEqual(by_codes(web), (len(sorts(web)), len(mirrorlike_sorts(web))))
            self.assertEqual(by_codes(web), pair)
        # An arm of its own kind at one end, so that pairs stand at one end alone.
        for arm in (["h", "a", "a"], ["h", "a", "c"]):
            for at in (0, 3):
                web = Web(["x", "x", *arms[:at], *arm, *arms[at + 3:]], ties, hubs, [(0, 1)])
                self.assertEqual(by_codes(web), (len(sorts(web)), len(mirrorlike_sorts(web))))
        # The same at a middle piece, from which the stiff tie hangs.
        middle = Web(["m", "h", "a", "b", "h", "a", "b", "y", "h", "a", "b", "h", "a", "b"],
                     [(0, 1), (1, 2), (1, 3), (0, 4), (4, 5), (4, 6), (0, 7), (7, 8), (8, 9), (8, 10),
                      (7, 11), (11, 12), (11, 13)], [1, 4, 8, 11], [(0, 7)])
        self.assertEqual(by_codes(middle), (len(sorts(middle)), len(mirrorlike_sorts(middle))))
        self.assertEqual(by_codes(middle), (10, 2))

    def test_no_marks(self):
        for web in (web_of(1, []), web_of(2, [(0, 1)]), web_of(3, [(0, 1), (1, 2)])):
            self.assertEqual(by_codes(web), (1, 1))
            self.assertIs(all_handless(web), True)
        ring = web_of(3, [(0, 1), (1, 2), (0, 2)])
        self.assertEqual((many_sorts(ring), many_mirrorlike(ring)), (1, 1))
        self.assertEqual(len(means(ring).rows), 6)
        self.assertEqual(means(web_of(1, [])).rows, (((0,), 1, 1),))

    def test_numbered_anew(self):
        rng = random.Random(206)
        for web in small_webs()[::4]:
            other = web.renumbered(rng.sample(range(len(web)), len(web)))
            self.assertEqual(many_sorts(web), many_sorts(other))
            self.assertEqual(many_mirrorlike(web), many_mirrorlike(other))


class TestBounds(Asking):
    def test_many_renamings_of_trees(self):
        self.assert_raises(TooMany("renamings", 400), means, BUSH)
        self.assertEqual((by_codes(BUSH), many_sorts(BUSH), all_handless(BUSH)), ((1, 1), 1, True))
        self.assertEqual(many_mirrorlike(BUSH), 1)
        star = web_with_all_hubs(16, [(0, 1), (0, 2), (0, 3)] + [(1 + at // 3, 4 + at) for at in range(9)]
                                 + [(4, 13), (4, 14), (4, 15)])
        self.assert_raises(TooMany("renamings", 400), means, star)
        self.assertEqual(many_sorts(star), len(sorts(star)))
        # Three arms, each a hub with two unlike ends, at a hub: three of two codes each.
        arms = web_with_all_hubs(10, [(0, 1), (0, 2), (0, 3)] + [(1 + at // 2, 4 + at) for at in range(6)],
                                 list("xhhh") + ["a", "b"] * 3)
        self.assertEqual(by_codes(arms), (4, 0))
        self.assertEqual(by_codes(COMB), (len(sorts(COMB)), len(mirrorlike_sorts(COMB))))

    def test_webs_that_are_no_trees(self):
        for web in (FULL, RING_BUSH):
            for call in (means, *BY_LISTING):
                self.assert_raises(TooMany("renamings", 400), call, web)
            self.assert_raises(BadWeb("tree"), by_codes, web)
            self.assert_raises(TooMany("renamings", 400), shows_means, web, None)
        # 384 renamings, then 2 * 6 * 6 * 6 and 2 * 6 * 6 in a loop of which one piece is of its own.
        self.assertEqual(len(means(cube(4)).rows), 384)
        own = web_of(15, RING_BUSH.ties, kinds=["x", "x", "y"] + ["a"] * 12)
        self.assert_raises(TooMany("renamings", 400), many_sorts, own)
        less = web_of(14, RING_BUSH.ties[:-1], kinds=["x"] + ["a"] * 13)
        self.assertEqual(len(means(less).rows), 2 * 6 * 6)

    def test_many_marks(self):
        for web, many in ((ELEVEN, 11), (TWELVE, 12), (cube(4), 16)):
            self.assertEqual(len(web.marks), many)
            self.assertGreaterEqual(many_sorts(web) * len(means(web).rows), 2 ** many)
            self.assertGreaterEqual(many_sorts(web), many_mirrorlike(web))
        # Twelve marks and two renamings: each setting is led by itself.
        web = web_of(12, TWELVE.ties, TWELVE.hubs, [], ["x"] + ["a"] * 11)
        rows = all_rows(web, web)
        self.assertEqual(len(means(web).rows), len(rows))
        least = {min(leads(web, web, row, one) for row in rows) for one in settings(web)}
        self.assertEqual(many_sorts(web), len(least))
        like = sum(mirror(web, one) in [leads(web, web, row, one) for row in rows] for one in least)
        self.assertEqual(many_mirrorlike(web), like)

    def test_closed_forms(self):
        # Four like arms with c codes, all mirrored in pairs, at a piece that is no hub.
        for many, codes in ((1, 2), (2, 2), (3, 2)):
            web = web_of(1 + 3 * many, [(0, 1 + 3 * at) for at in range(many)]
                         + [(1 + 3 * at, 2 + 3 * at + k) for at in range(many) for k in (0, 1)],
                         [1 + 3 * at for at in range(many)], [], ["x"] + list("hab") * many)
            self.assertEqual(many_sorts(web), comb(codes + many - 1, many))

    def test_short_times(self):
        begun = time.process_time()
        for web in (TEN, DOUBLE, cube(4), cube(3), COMB, BUSH):
            for call in BY_LISTING:
                call(web)
            if web != BUSH:
                self.assertIs(shows_means(web, means(web)), True)
        self.assertLess(time.process_time() - begun, 5)

    def test_errors(self):
        for value in (None, Body(STAR, [1]), "a", 3, True):
            for call in (means, by_codes, *BY_LISTING):
                self.assert_raises(BadWeb("web"), call, value)
            self.assert_raises(BadWeb("web"), shows_means, value, None)
            self.assert_raises(BadWeb("web"), shows_sway, value, None, None)


class TestChecks(Asking):
    def test_means(self):
        for web in (STAR, web_of(2, [(0, 1)]), web_of(6, [(0, 1), (1, 2), (2, 3), (2, 4), (3, 5)], [2])):
            rows = means(web).rows
            self.assertIs(shows_means(web, Means([[list(row), left, kept] for row, left, kept in rows])), True)
            for bent in bent_values(rows):
                self.assertIs(shows_means(web, Means(bent)), False, bent)
            for value in [*ODD_VALUES, rows, Means, Paper("means", rows), Led(rows), web]:
                self.assertIs(shows_means(web, value), False)
                if value != rows:
                    self.assertIs(shows_means(web, Means(value)), False)

    def test_sway(self):
        told = []
        webs = [web for web in small_webs() if 0 < len(web.marks) < 5][::3]
        for web in webs + [Web.read(text) for text in BORROWED]:
            held = sorts_by_trying(web)
            for mark in range(len(web.marks)):
                def does_count(setting):
                    return Body(web, setting).turned([mark]).setting not in held[setting]

                counting = [one for one in held if does_count(one)]
                lacking = [one for one in held if not does_count(one)]
                how = "borrowed" if counting and lacking else "firm" if counting else "idle"
                told.append(how)
                for one in counting or [None]:
                    for other in lacking or [None]:
                        paper = Sway(how, one and list(one), other)
                        self.assertIs(shows_sway(web, mark, paper), True)
                for paper in all_sways(counting, lacking, how):
                    self.assertIs(shows_sway(web, mark, paper), False, paper.parts)
                self.assertIs(shows_sway(web, mark, sway(web, mark)), True)
        self.assertGreater(min(told.count(how) for how in ("firm", "borrowed", "idle")), 3)

    def test_sway_of_any_value(self):
        for value in [*ODD_VALUES, Sway, STAR, Paper("sway", "idle", None, (1,)), Means(())]:
            self.assertIs(shows_sway(STAR, 0, value), False)
            self.assertIs(shows_sway(STAR, 0, Sway(value, value, value)), False)
            self.assertIs(shows_sway(STAR, 0, Sway(value, None, (1,))), False)
            self.assertIs(shows_sway(STAR, 0, Sway("idle", value, (1,))), value is None)
            self.assertIs(shows_sway(STAR, 0, Sway("idle", None, value)), False)
        for setting in ((True,), (1.0,), (0,), (1, 1), ((1,),), ("1",)):
            self.assertIs(shows_sway(STAR, 0, Sway("idle", None, setting)), False)
        self.assertIs(shows_sway(STAR, 0, Sway("idle", None, [-1])), True)

    def test_sway_errors(self):
        for value in (1, -1, 10 ** 30, *NO_INTEGERS):
            self.assert_raises(NoMark(value), shows_sway, STAR, value, None)
        self.assert_raises(TooMany("marks", 10), shows_sway, TWELVE, 0, None)
        self.assert_raises(TooMany("renamings", 400), shows_sway, FULL, 0, None)
        self.assert_raises(NoMark(12), shows_sway, TWELVE, 12, None)

    def test_made_by_calling_this_class(self):
        class FakeMeans(Means):
            pass

        class FakeSway(Sway):
            pass

        self.assertIs(shows_means(STAR, FakeMeans(means(STAR).rows)), False)
        self.assertIs(shows_sway(STAR, 0, FakeSway("idle", None, (1,))), False)
        for value in same_named(means(STAR)):
            self.assertIs(shows_means(STAR, value), False)
        for value in same_named(sway(STAR, 0)):
            self.assertIs(shows_sway(STAR, 0, value), False)


def all_sways(counting, lacking, how):
    """Sways that are wrong of a mark, in one place or in several."""
    wrong = [Sway(other, (counting or [None])[0], (lacking or [None])[0])
             for other in ("firm", "borrowed", "idle", "", None) if other != how]
    some = (counting or lacking)[0]
    for one in [None, *counting[:2], *lacking[:2], some + (1,), some[1:], "x"]:
        for other in [None, *lacking[:2], *counting[:2], some + (1,), some[1:], "x"]:
            right_one = one in counting if counting else one is None
            right_other = other in lacking if lacking else other is None
            if not (right_one and right_other):
                wrong.append(Sway(how, one, other))
    return wrong


if __name__ == "__main__":
    unittest.main()
