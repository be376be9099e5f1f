"""same, mirrorlike, and the checks of what they show."""

import random
import unittest

from otherhand.bodies import Body
from otherhand.check_sameness import shows_mirrorlike, shows_same
from otherhand.errors import BadBody, BadWeb, TooMany
from otherhand.joined import joined
from otherhand.papers import Denial, Paper
from otherhand.refusing import Led, Refused
from otherhand.sameness import Handed, MirrorOf, Mirrorlike, Neither, One, mirrorlike, same
from otherhand.webs import Web
from tests.helping import ODD_VALUES, Asking
from tests.oracle import any_body, any_row, rows_leading, some_webs, web_of, web_with_all_hubs
from tests.test_refusing import some_pairs
from tests.trees import any_tree, bent_trees, is_right_tree

DOUBLE = web_with_all_hubs(8, [(at, 4 + to) for at in range(4) for to in range(4)])
STAR = web_of(5, [(0, 1), (0, 2), (0, 3), (0, 4)], [0], kinds=list("habcd"))


class TestSameness(Asking):
    def test_against_all_rows(self):
        told = []
        for seed in (81, 83):
            for one, other in some_pairs(seed, 300, most=8, kinds="ab", loops=2, hubs=1):
                ones, mirrors = rows_leading(one, other), rows_leading(one, other.mirrored())
                paper = same(one, other)
                told.append(paper.word)
                self.assertEqual(paper, same(one, other))
                self.assertIs(shows_same(one, other, paper), True)
                if ones:
                    self.assertIs(type(paper), One)
                    self.assertIn(paper.row, ones)
                elif mirrors:
                    self.assertIs(type(paper), MirrorOf)
                    self.assertIn(paper.row, mirrors)
                else:
                    self.assertIs(type(paper), Neither)
                    self.assertTrue(is_right_tree(one, other, paper.tree))
                    self.assertTrue(is_right_tree(one, other.mirrored(), paper.mirrored))
                # Any right rows and trees pass, both ways about, and no others.
                for row in ones[:3] + mirrors[:3] + [any_row(random.Random(1), len(one.web))]:
                    self.assertIs(shows_same(one, other, One(list(row))), row in ones)
                    self.assertIs(shows_same(one, other, MirrorOf(list(row))), row in mirrors)
                self.assertEqual(same(other, one).word, paper.word)
        self.assertGreater(min(told.count(word) for word in ("one", "mirrorof", "neither")), 20)

    def test_mirrorlike_against_all_rows(self):
        told = []
        for one, _ in some_pairs(85, 300, most=8, kinds="ab", loops=2, hubs=1):
            rows = rows_leading(one, one.mirrored())
            paper = mirrorlike(one)
            told.append(paper.word)
            self.assertEqual(paper, mirrorlike(one))
            self.assertIs(shows_mirrorlike(one, paper), True)
            self.assertIs(type(paper), Mirrorlike if rows else Handed)
            self.assertIs(bool(paper), bool(rows))
            if rows:
                self.assertIn(paper.row, rows)
                self.assertTrue(all(shows_mirrorlike(one, Mirrorlike(row)) for row in rows[:4]))
            else:
                self.assertTrue(is_right_tree(one, one.mirrored(), paper.tree))
        self.assertGreater(min(told.count(word) for word in ("mirrorlike", "handed")), 30)

    def test_facts(self):
        rng = random.Random(87)
        for web in some_webs(88, 60, kinds="aab"):
            body = any_body(rng, web)
            there = body.renumbered(any_row(rng, len(web)))
            self.assertEqual(same(body, there).word, "one")
            self.assertIn(same(body, there.mirrored()).word, ("one", "mirrorof"))
            self.assertEqual(same(body, body.mirrored()).word == "one", bool(mirrorlike(body)))
            self.assertEqual(bool(mirrorlike(body)), bool(mirrorlike(there)))
            if not web.hubs:
                self.assertIs(bool(mirrorlike(body)), True)

    def test_mirror_images_joined_to_a_helper(self):
        rng = random.Random(89)
        helper = Body(web_of(4, [(0, 1), (0, 2), (0, 3)], [0], kinds=list("xabc")), [1])
        done = 0
        for web in some_webs(90, 60, most=6):
            body = any_body(rng, web)
            for piece in range(len(web)):
                try:
                    one = joined(body, piece, helper, 1)
                except BadWeb:
                    continue
                other = joined(body.mirrored(), piece, helper.mirrored(), 1)
                self.assertIs(shows_same(one, other, MirrorOf(range(len(one.web)))), False)
                self.assertIs(shows_same(one, other, MirrorOf(list(range(len(one.web))))), True)
                done += 1
        self.assertGreater(done, 100)

    def test_too_many(self):
        one, other = Body(DOUBLE, [1] * 8), Body(DOUBLE, [1] * 7 + [-1])
        for call in (lambda: same(one, other), lambda: same(one, one), lambda: mirrorlike(one)):
            self.assert_raises(TooMany("renamings", 400), call)
        plain = tuple(range(8))
        self.assertIs(shows_same(one, one, One(plain)), True)
        self.assertIs(shows_same(one, other, One(plain)), False)
        self.assertIs(shows_same(one, one.mirrored(), MirrorOf(plain)), True)
        self.assertIs(shows_same(one, other, Neither("pieces", "pieces")), False)
        # Two ends exchanged turn each hub of the one side of the web.
        turned = Body(DOUBLE, [1, 1, 1, 1, -1, -1, -1, -1])
        self.assertIs(shows_same(one, turned, One((1, 0, 2, 3, 4, 5, 6, 7))), True)
        self.assertIs(shows_mirrorlike(one, Mirrorlike((1, 0, 2, 3, 5, 4, 6, 7))), True)
        self.assertIs(shows_mirrorlike(one, Handed((0, ("used",) * 8))), False)

    def test_errors(self):
        body = Body(STAR, [1])
        for value in (None, STAR, "a", 3, True):
            self.assert_raises(BadBody("one"), same, value, None)
            self.assert_raises(BadBody("other"), same, body, value)
            self.assert_raises(BadBody("one"), shows_same, value, None, None)
            self.assert_raises(BadBody("other"), shows_same, body, value, None)
            self.assert_raises(BadBody("body"), mirrorlike, value)
            self.assert_raises(BadBody("body"), shows_mirrorlike, value, None)


class TestChecks(Asking):
    def test_any_right_trees_and_bent_ones(self):
        rng = random.Random(91)
        told = []
        for one, other in some_pairs(92, 250, most=6, kinds="aab", loops=3):
            tree, mirrored = any_tree(rng, one, other), any_tree(rng, one, other.mirrored())
            if tree is None or mirrored is None:
                for paper in (Neither(tree, mirrored), Neither(tree or mirrored, mirrored or tree)):
                    self.assertIs(shows_same(one, other, paper), False)
                continue
            self.assertIs(shows_same(one, other, Neither(tree, mirrored)), True)
            asked = is_right_tree(one, other, mirrored) and is_right_tree(one, other.mirrored(), tree)
            self.assertIs(shows_same(one, other, Neither(mirrored, tree)), asked)
            for bent in rng.sample(bent_trees(rng, tree, 7), 3):
                asked = is_right_tree(one, other, bent)
                self.assertIs(shows_same(one, other, Neither(bent, mirrored)), asked)
                told.append(asked)
            for bent in rng.sample(bent_trees(rng, mirrored, 7), 3):
                asked = is_right_tree(one, other.mirrored(), bent)
                self.assertIs(shows_same(one, other, Neither(tree, bent)), asked)
                told.append(asked)
        self.assertGreater(told.count(False), 100)
        self.assertGreater(told.count(True), 2)

    def test_handed_trees(self):
        rng = random.Random(93)
        done = 0
        for one, _ in some_pairs(94, 250, most=6, kinds="aab"):
            tree = any_tree(rng, one, one.mirrored())
            if tree is not None:
                self.assertIs(shows_mirrorlike(one, Handed(tree)), True)
                self.assertIs(shows_mirrorlike(one, Refused(tree)), False)
                for bent in bent_trees(rng, tree, 7):
                    asked = is_right_tree(one, one.mirrored(), bent)
                    self.assertIs(shows_mirrorlike(one, Handed(bent)), asked)
                done += 1
        self.assertGreater(done, 10)

    def test_any_value(self):
        left, right = Body(STAR, [1]), Body(STAR, [-1])
        row, tree = (0, 1, 2, 3, 4), (0, ("marks",))
        papers = [Led(row), Refused(tree), Paper("one", row), Paper("mirrorof", row),
                  Denial("neither", tree, tree), Paper("mirrorlike", row), Denial("handed", tree)]
        for value in [*ODD_VALUES, *papers, left, row, tree, One, Neither]:
            for other in (left, right):
                self.assertIs(shows_same(left, other, value), False)
                for made in (One, MirrorOf):
                    if value != row:
                        self.assertIs(shows_same(left, other, made(value)), False)
                self.assertIs(shows_same(left, other, Neither(value, value)), False)
                self.assertIs(shows_mirrorlike(left, value), False)
                self.assertIs(shows_mirrorlike(left, Mirrorlike(value)), False)
            self.assertIs(shows_mirrorlike(left, Handed(value)), value == tree)
        self.assertIs(shows_same(left, left, One([False, True, 2, 3, 4])), False)
        self.assertIs(shows_same(left, left, One(row)), True)
        self.assertIs(shows_same(left, left, MirrorOf(row)), False)
        self.assertIs(shows_same(left, right, MirrorOf(row)), True)
        self.assertIs(shows_same(left, left, Mirrorlike(row)), False)
        self.assertIs(shows_mirrorlike(left, One(row)), False)

    def test_neither_of_two_webs(self):
        one, other = Body(STAR, [1]), Body(STAR.with_kind(4, "z"), [1])
        tree = (0, ("branches",))
        self.assertEqual(same(one, other).word, "neither")
        self.assertIs(shows_same(one, other, Neither(tree, tree)), True)
        self.assertIs(shows_same(one, other, Neither(tree, (0, ("marks",)))), False)
        two = Body(Web(["a", "b"], [(0, 1)]), [])
        self.assertEqual(same(one, two), Neither("pieces", "pieces"))
        self.assertIs(shows_same(one, two, Neither("pieces", "pieces")), True)
        self.assertIs(shows_same(one, two, Neither("pieces", tree)), False)

    def test_made_by_calling_this_class(self):
        class Fake(One):
            pass

        class FakeMirrorOf(MirrorOf):
            pass

        class FakeNeither(Neither):
            pass

        class FakeMirrorlike(Mirrorlike):
            pass

        class FakeHanded(Handed):
            pass

        left, right = Body(STAR, [1]), Body(STAR, [-1])
        other = Body(web_of(1, []), [])
        for made, told in ((MirrorOf, True), (FakeMirrorOf, False)):
            self.assertIs(shows_same(left, right, made(range_of(5))), told)
        for made, told in ((Neither, True), (FakeNeither, False)):
            bent = left.with_kind(0, "z")
            self.assertIs(shows_same(left, bent, made((0, ("kind",)), (0, ("kind",)))), told)
        for made, told in ((Handed, True), (FakeHanded, False)):
            self.assertIs(shows_mirrorlike(left, made((0, ("marks",)))), told)
        self.assertIs(bool(mirrorlike(other)), True)
        body = Body(web_of(1, []), [])
        self.assertIs(shows_same(body, body, Fake([0])), False)
        self.assertIs(shows_mirrorlike(body, FakeMirrorlike([0])), False)
        self.assertIs(shows_mirrorlike(body, Mirrorlike([0])), True)


def range_of(many):
    return tuple(range(many))


if __name__ == "__main__":
    unittest.main()
