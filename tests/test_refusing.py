"""leading, and the checks of what it shows."""

import random
import time
import unittest

from otherhand.bodies import Body
from otherhand.branches import core_of
from otherhand.check_renamings import shows_leading
from otherhand.errors import BadBody, TooMany
from otherhand.papers import Denial, Paper
from otherhand.refusing import Led, Refused, leading
from otherhand.renamings import renamings
from otherhand.sameness import Handed, One
from otherhand.webs import Web
from tests.helping import ODD_VALUES, Asking
from tests.oracle import (
    all_rows, any_body, any_row, any_web, rows_leading, settings, some_webs, web_of,
    web_with_all_hubs,
)
from tests.test_renamings import any_ring_web, cube
from tests.trees import any_tree, bent_trees, is_right_tree

RING_WITH_HUBS = web_with_all_hubs(6, [(0, 1), (1, 2), (0, 2), (0, 3), (1, 4), (2, 5)])


def some_pairs(seed, many, **asked):
    """Pairs of bodies: of one web in two orders, and now and then of two webs."""
    rng = random.Random(seed)
    for web in some_webs(seed + 1, many, **asked):
        other = web.renumbered(any_row(rng, len(web)))
        if rng.random() < 0.1:
            other = any_web(rng, **asked)
        yield any_body(rng, web), any_body(rng, other)


class TestLeadingPapers(Asking):
    def check_pair(self, one, other):
        rows = rows_leading(one, other)
        paper = leading(one, other)
        self.assertIs(bool(paper), bool(rows))
        self.assertEqual(paper, leading(one, other))
        self.assertIs(shows_leading(one, other, paper), True)
        if rows:
            self.assertIs(type(paper), Led)
            self.assertIn(paper.row, rows)
        else:
            self.assertIs(type(paper), Refused)
            self.assertTrue(is_right_tree(one, other, paper.tree))
        return bool(rows)

    def test_against_all_rows(self):
        told = [self.check_pair(one, other)
                for seed in (61, 63)
                for one, other in some_pairs(seed, 250, most=8, kinds="aab", loops=2)]
        self.assertGreater(min(told.count(True), told.count(False)), 100)

    def test_stiff_ties_in_at_and_beside_the_core(self):
        told = [self.check_pair(one, other)
                for seed in (65, 67)
                for one, other in some_pairs(seed, 200, most=9, kinds="a", loops=1, stiff=1)]
        self.assertGreater(min(told.count(True), told.count(False)), 60)

    def test_all_settings_of_some_webs(self):
        shapes = [
            # A stiff tie in the middle; with two like ends; hanging at a middle piece; in a loop.
            web_of(6, [(0, 1), (0, 2), (0, 3), (1, 4), (1, 5)], [], [(0, 1)]),
            web_of(6, [(0, 1), (0, 2), (0, 3), (1, 4), (1, 5)], [], [(0, 1)], list("ccabab")),
            web_of(8, [(0, 1), (0, 2), (0, 3), (1, 4), (1, 5), (2, 6), (3, 7)], [], [(0, 1)]),
            web_of(6, [(0, 1), (1, 2), (2, 3), (0, 3), (0, 4), (1, 5)], [], [(0, 1)]),
            web_of(6, [(0, 1), (1, 2), (2, 3), (0, 3), (0, 4), (1, 5)], [], [(1, 2), (0, 3)]),
            # A loop from which a stiff tie hangs.
            web_of(6, [(0, 1), (1, 2), (0, 2), (2, 3), (3, 4), (3, 5)], [], [(2, 3)]),
            RING_WITH_HUBS,
            web_with_all_hubs(6, [(0, 1), (1, 2), (2, 3), (3, 0), (0, 2), (1, 3), (0, 4), (2, 5)]),
        ]
        for web in shapes:
            for one in settings(web):
                for other in settings(web):
                    self.check_pair(Body(web, one), Body(web, other))

    def test_cores_of_unlike_sizes(self):
        path = [web_of(many, [(at, at + 1) for at in range(many - 1)]) for many in range(1, 7)]
        for one in path:
            for other in path:
                paper = leading(Body(one, []), Body(other, []))
                if len(core_of(one)) != len(core_of(other)):
                    self.assertEqual(paper, Refused("pieces"))
                else:
                    self.assertIs(bool(paper), one == other)
        self.assertEqual(leading(Body(path[0], []), Body(path[1], [])).tree, "pieces")
        self.assertEqual(leading(Body(path[2], []), Body(path[0], [])).tree, (1, ("branches",)))
        dots = Body(web_of(1, []), []), Body(web_of(1, [], kinds=["b"]), [])
        self.assertEqual(leading(*dots).tree, (0, ("kind",)))

    def test_too_many_ways_to_place_the_core(self):
        double = [(2 * at + k, (2 * at + 2 + j) % 16) for at in range(8) for k in (0, 1) for j in (0, 1)]
        full = [(at, 4 + to) for at in range(4) for to in range(4)]
        for many, ties in ((16, double), (8, full)):
            web = web_with_all_hubs(many, ties)
            one, other = Body(web, [1] * many), Body(web, [1] * (many - 1) + [-1])
            self.assert_raises(TooMany("renamings", 400), leading, one, one)
            self.assert_raises(TooMany("renamings", 400), leading, one, other)
            # The checks do not raise it.
            self.assertIs(shows_leading(one, one, Led(range(many))), False)
            self.assertIs(shows_leading(one, one, Led(list(range(many)))), True)
            self.assertIs(shows_leading(one, other, Led(list(range(many)))), False)
            self.assertIs(shows_leading(one, one, Refused((0, ("used",) * many))), False)
        # Another kind: no way at all, so not too many.
        web = web_with_all_hubs(8, full)
        other = web.with_kind(0, "b")
        self.assertIs(bool(leading(Body(web, [1] * 8), Body(other, [1] * 8))), False)
        self.assertEqual(len(renamings(cube(4), cube(4))), 384)
        rng = random.Random(69)
        paper = leading(any_body(rng, cube(4)), any_body(rng, cube(4)))
        self.assertIsInstance(paper, (Led, Refused))

    def test_like_branches_cost_nothing(self):
        rng = random.Random(70)
        begun = time.process_time()
        ends = [(0, 1), (0, 2), (0, 3), (0, 4)] + [(1 + at // 3, 5 + at) for at in range(11)]
        ring = [(0, 1), (1, 2), (0, 2)] + [(at % 3, 3 + at) for at in range(6)]
        ring += [(3, 9), (3, 10), (3, 11), (4, 12), (4, 13), (4, 14)]
        for many, ties in ((16, ends), (15, ring)):
            web = web_with_all_hubs(many, ties)
            for _ in range(5):
                one = any_body(rng, web)
                other = any_body(rng, web.renumbered(any_row(rng, many)))
                self.assertIs(shows_leading(one, other, leading(one, other)), True)
                again = one.renumbered(any_row(rng, many))
                self.assertIs(type(leading(one, again)), Led)
                self.assertIs(shows_leading(one, again, leading(one, again)), True)
        self.assertLess(time.process_time() - begun, 10)

    def test_sixteen_pieces_take_a_short_time(self):
        rng = random.Random(71)
        begun = time.process_time()
        for _ in range(15):
            web = any_ring_web(rng)
            pairs = [(any_body(rng, web), any_body(rng, any_ring_web(rng)))]
            pairs.append((any_body(rng, web), any_body(rng, web.renumbered(any_row(rng, 16)))))
            for one, other in pairs:
                self.assertIs(shows_leading(one, other, leading(one, other)), True)
            one = any_body(rng, web)
            there = one.renumbered(any_row(rng, 16))
            self.assertIs(shows_leading(one, there, leading(one, there)), True)
        self.assertLess(time.process_time() - begun, 20)

    def test_errors(self):
        body = Body(web_of(1, []), [])
        for value in (None, body.web, "a", 3, True):
            self.assert_raises(BadBody("one"), leading, value, None)
            self.assert_raises(BadBody("other"), leading, body, value)
            self.assert_raises(BadBody("one"), shows_leading, value, None, None)
            self.assert_raises(BadBody("other"), shows_leading, body, value, None)


class TestChecks(Asking):
    def test_any_right_tree_and_bent_ones(self):
        rng = random.Random(72)
        right = wrong = marks = 0
        for one, other in some_pairs(73, 200, most=7, kinds="aab", loops=3):
            tree = any_tree(rng, one, other)
            self.assertIs(tree is None, bool(rows_leading(one, other)))
            if tree is None:
                continue
            self.assertIs(shows_leading(one, other, Refused(tree)), True)
            marks += "marks" in str(tree)
            for bent in bent_trees(rng, tree, 8):
                asked = is_right_tree(one, other, bent)
                self.assertIs(shows_leading(one, other, Refused(bent)), asked, bent)
                right, wrong = right + asked, wrong + (not asked)
        self.assertGreater(min(right, wrong, marks), 15)

    def test_no_tree_where_a_renaming_leads(self):
        """Trees that are right for one pair of bodies do not pass for another one."""
        rng = random.Random(74)
        for one, other in some_pairs(75, 100, most=7, kinds="a", loops=2):
            paper = leading(one, other)
            if not paper:
                there = one.renumbered(any_row(rng, len(one.web)))
                for pair in ((one, there), (there, one), (one, one), (other, other)):
                    self.assertIs(shows_leading(*pair, paper), False)

    def test_any_right_row(self):
        rng = random.Random(76)
        for one, other in some_pairs(77, 100, most=6, kinds="a"):
            rows = rows_leading(one, other)
            for row in rows[:6]:
                self.assertIs(shows_leading(one, other, Led(list(row))), True)
            for row in all_rows(one.web, other.web)[:6] + [any_row(rng, len(one.web))]:
                self.assertIs(shows_leading(one, other, Led(row)), row in rows)

    def test_a_tree_where_marks_alone_is_true(self):
        pair = Web(["c", "c", "a", "b", "a", "b"], [(0, 1), (0, 2), (0, 3), (1, 4), (1, 5)], [0, 1])
        here = Body(pair, [1, 1])
        away = here.mirrored()
        inner, other = (1, ("used", "marks")), (1, ["marks", "used"])
        for tree in ((0, (inner, other)), [0, [list(inner), other]], (1, ((0, ("used", "marks")),
                     (0, ("marks", "used"))))):
            self.assertIs(shows_leading(here, away, Refused(tree)), True)
        for tree in ((0, (inner, inner)), (0, (inner,)), (0, ("used", other)), (0, (other, inner)),
                     (2, (inner, other)), (0, (inner, (0, ("marks", "used")))), "pieces",
                     (0, ("marks", other)), (0, ((True, ("used", "marks")), other)),
                     (0.0, (inner, other)), (False, (inner, other)), (0, (inner, (1, "used")))):
            self.assertIs(shows_leading(here, away, Refused(tree)), False, tree)
        # The hub of this loop is wholly placed when its piece 2 is not placed yet.
        ties = [(0, 1), (1, 2), (2, 3), (0, 3), (0, 4)]
        ring = Body(web_of(5, ties, [0], kinds=list("abcde")), [1])
        for told, asked in (("marks", True), ((2, ("kind", "kind", "marks", "kind")), True),
                            ((2, ("kind", "kind", "used", "kind")), False),
                            ((2, ("marks", "kind", "marks", "kind")), False), ("ties", False)):
            tree = (3, ("kind", "kind", "kind", told))
            tree = (0, ((1, ("kind", tree, "kind", "kind")), "kind", "kind", "kind"))
            self.assertIs(shows_leading(ring, ring.mirrored(), Refused(tree)), asked)
            self.assertIs(shows_leading(ring, ring, Refused(tree)), False)

    def test_any_value(self):
        body = Body(web_of(4, [(0, 1), (0, 2), (0, 3)], [0], kinds=list("cabd")), [1])
        other = body.mirrored()
        values = [*ODD_VALUES, Led, Refused, body, Paper("led", (0, 1, 2, 3)),
                  Denial("refused", (0, ("marks",))), One((0, 1, 2, 3)), Handed((0, ("marks",)))]
        for value in values:
            self.assertIs(shows_leading(body, body, value), False)
            self.assertIs(shows_leading(body, other, value), False)
            self.assertIs(shows_leading(body, body, Led(value)), False)
            self.assertIs(shows_leading(body, other, Refused(value)), False)
            self.assertIs(shows_leading(body, other, Refused((0, (value,)))), False)
            self.assertIs(shows_leading(body, other, Refused((value, ("marks",)))), False or value == 0
                          and type(value) is int)
            self.assertIs(shows_leading(body, other, Refused((0, value))), False)
        self.assertIs(shows_leading(body, other, Refused([0, ["marks"]])), True)
        self.assertIs(shows_leading(body, body, Led([0, 1, 2, 3])), True)
        self.assertIs(shows_leading(body, body, Led([False, True, 2, 3])), False)

    def test_made_by_calling_this_class(self):
        class Fake(Led):
            pass

        body = Body(web_of(1, []), [])
        self.assertIs(shows_leading(body, body, Led([0])), True)
        self.assertIs(shows_leading(body, body, Fake([0])), False)

        class FakeRefused(Refused):
            pass

        other = Body(web_of(1, [], kinds=["b"]), [])
        self.assertIs(shows_leading(body, other, Refused((0, ("kind",)))), True)
        self.assertIs(shows_leading(body, other, FakeRefused((0, ("kind",)))), False)


if __name__ == "__main__":
    unittest.main()
