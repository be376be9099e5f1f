"""Flat pieces, bodies faced there, and what the two faces tell."""

import random
import time
import unittest

from otherhand.bodies import Body
from otherhand.check_places import shows_faces
from otherhand.checks import is_odd
from otherhand.errors import BadBody, BadNumber, BadWeb, Misfit, NoPiece, TooMany
from otherhand.flats import faced, faces, flat_pieces
from otherhand.papers import Paper
from otherhand.places import Alike, kins, new_kind
from otherhand.sameness import MirrorOf, Neither, One, same
from otherhand.webs import Web
from tests.helping import NO_INTEGERS, ODD_VALUES, Asking
from tests.oracle import (
    any_body, neighbours, rows_leading, some_webs, web_of,
)
from tests.test_renamings import cube
from tests.trees import any_tree, bent_trees, is_right_tree

STAR = [(0, 1), (0, 2), (0, 3)]
PLAIN = Body(web_of(4, STAR, kinds=list("mabx")), [])
NEAR = Body(Web(["m", "a", "b", "h", "p", "q"], [(0, 1), (0, 2), (0, 3), (3, 4), (3, 5)], [3], []), [1])


def some_bodies(seed, many):
    """Bodies with a flat piece, most with marks."""
    rng = random.Random(seed)
    webs = some_webs(seed + 1, 2 * many, most=9, kinds="aab", loops=2, hubs=0.5, stiff=0.2)
    webs += some_webs(seed + 2, many, most=8, kinds="a", loops=3, hubs=0.4, stiff=0)
    webs += some_webs(seed + 3, many, most=9, kinds="abcdef", loops=1, hubs=0.5, stiff=0.3)
    webs += some_webs(seed + 4, many // 2, most=8, kinds="abc", hubs=0, stiff=0)
    return [any_body(rng, web) for web in webs if flat_pieces(web)]


class TestFlats(Asking):
    def test_flat_pieces(self):
        met = 0
        for web in some_webs(401, 250, most=9, kinds="a", hubs=0.3, stiff=0.2):
            asked = []
            for piece in range(len(web)):
                if len(neighbours(web, piece)) == 3 and piece not in web.hubs:
                    if not any(piece in tie for tie in web.stiff):
                        asked.append(piece)
            self.assertEqual(flat_pieces(web), tuple(asked))
            met += len(asked) > 1
        self.assertGreater(met, 20)
        self.assertEqual(flat_pieces(web_of(1, [])), ())
        split = web_of(6, [(0, 1), (0, 2), (0, 3), (1, 4), (1, 5)], [], [(0, 1)])
        self.assertEqual(flat_pieces(split), ())
        self.assertEqual(flat_pieces(web_of(6, split.ties)), (0, 1))
        self.assertEqual(flat_pieces(web_of(6, split.ties, [1])), (0,))
        self.assertEqual(flat_pieces(web_of(5, STAR + [(0, 4)])), ())

    def test_faced(self):
        for body in some_bodies(403, 60):
            web = body.web
            for piece in flat_pieces(web):
                for hand in (1, -1):
                    found = faced(body, piece, hand)
                    self.assertEqual(found.web.kinds, web.kinds + (new_kind(web),))
                    self.assertEqual(found.web.ties, tuple(sorted([*web.ties, (piece, len(web))])))
                    self.assertEqual(found.web.hubs, tuple(sorted([*web.hubs, piece])))
                    self.assertEqual(found.web.stiff, web.stiff)
                    self.assertEqual(found.hand(piece), hand)
                    for hub in web.hubs:
                        self.assertEqual(found.hand(hub), body.hand(hub))
                    for tie in web.stiff:
                        self.assertEqual(found.side(tie), body.side(tie))
        named = Body(web_of(4, STAR, kinds=["new1", "new0", "a", "new3"]), [])
        self.assertEqual(faced(named, 0, 1).web.kinds[4], "new2")

    def test_the_fact_of_faces(self):
        words = []
        for body in some_bodies(405, 120):
            own, mirrored = rows_leading(body, body), rows_leading(body, body.mirrored())
            for piece in flat_pieces(body.web):
                near = neighbours(body.web, piece)
                odd = [is_odd([row[at] for at in near]) for row in own if row[piece] == piece]
                even = [not is_odd([row[at] for at in near]) for row in mirrored if row[piece] == piece]
                asked = "one" if any(odd) else "mirrorof" if any(even) else "neither"
                paper = faces(body, piece)
                self.assertEqual(paper.word, asked)
                words.append(asked)
                self.assertEqual(paper, same(faced(body, piece, 1), faced(body, piece, -1)))
                self.assertIs(shows_faces(body, piece, paper), True)
                if not body.web.marks:
                    self.assertIs(any(even), True)
        self.assertGreater(min(words.count(word) for word in ("one", "mirrorof", "neither")), 15)

    def test_sixteen_and_seventeen_pieces(self):
        line = [(at, at + 1) for at in range(13)]
        fifteen = Body(web_of(15, line + [(7, 14)], kinds=["x"] + ["a"] * 14), [])
        self.assertEqual(flat_pieces(fifteen.web), (7,))
        self.assertEqual(len(faced(fifteen, 7, 1).web), 16)
        self.assertEqual(faces(fifteen, 7).word, "mirrorof")
        sixteen = Body(web_of(16, line + [(7, 14), (0, 15)], kinds=["x"] + ["a"] * 15), [])
        self.assertEqual(flat_pieces(sixteen.web), (7,))
        self.assert_raises(TooMany("pieces", 16), faced, sixteen, 7, -1)
        self.assert_raises(TooMany("pieces", 16), faces, sixteen, 7)
        self.assert_raises(TooMany("pieces", 16), shows_faces, sixteen, 7, None)
        self.assert_raises(Misfit("piece"), faced, sixteen, 6, -1)
        self.assert_raises(BadNumber("hand"), faced, sixteen, 7, 0)

    def test_too_many_renamings(self):
        # Two sets of four, each piece tied to all of the other set but one, and two sets of three.
        ties = [(at, 4 + to) for at in range(4) for to in range(4) if at + to > 0]
        ties += [(at, to) for at in (8, 9, 10) for to in (11, 12, 13)] + [(4, 8)]
        body = Body(web_of(14, ties), [])
        self.assertEqual(flat_pieces(body.web), (0, 9, 10, 11, 12, 13))
        # 36 * 12 ways to place the core with piece 0 faced, 36 * 6 with piece 9 faced.
        self.assert_raises(TooMany("renamings", 400), faces, body, 0)
        self.assertEqual(faces(body, 9).word, "one")
        self.assert_raises(TooMany("renamings", 400), kins, body)
        self.assertEqual(len(faced(body, 0, 1).web), 15)
        self.assertIs(shows_faces(body, 0, None), False)
        exchanged = list(range(15))
        exchanged[5], exchanged[6] = 6, 5
        self.assertIs(shows_faces(body, 0, One(exchanged)), True)
        self.assertIs(shows_faces(body, 0, One(range_of(15))), False)
        self.assertIs(shows_faces(body, 0, MirrorOf(range_of(15))), True)

    def test_short_times(self):
        begun = time.process_time()
        for body in (Body(web_of(8, cube(3).ties, [7]), [1]), Body(web_of(15, [
                (at, (at + 1) % 15) for at in range(15)] + [(0, 5), (2, 9), (4, 12)]), [])):
            for piece in flat_pieces(body.web):
                self.assertIs(shows_faces(body, piece, faces(body, piece)), True)
        self.assertLess(time.process_time() - begun, 5)

    def test_errors(self):
        for value in (None, NEAR.web, "a", 3, True):
            self.assert_raises(BadBody("body"), faced, value, None, None)
            self.assert_raises(BadBody("body"), faces, value, None)
            self.assert_raises(BadBody("body"), shows_faces, value, None, None)
        for value in (None, NEAR, "a", 3, True):
            self.assert_raises(BadWeb("web"), flat_pieces, value)
        for value in (6, -1, 10 ** 30, *NO_INTEGERS):
            self.assert_raises(NoPiece(value), faced, NEAR, value, None)
            self.assert_raises(NoPiece(value), faces, NEAR, value)
            self.assert_raises(NoPiece(value), shows_faces, NEAR, value, None)
        for value in (0, 2, -2, *NO_INTEGERS):
            self.assert_raises(BadNumber("hand"), faced, NEAR, 0, value)
            # The hand is a parameter, that the piece is not flat comes behind.
            self.assert_raises(BadNumber("hand"), faced, NEAR, 3, value)
        for piece in (1, 2, 3, 4, 5):
            self.assert_raises(Misfit("piece"), faced, NEAR, piece, 1)
            self.assert_raises(Misfit("piece"), faces, NEAR, piece)
            self.assert_raises(Misfit("piece"), shows_faces, NEAR, piece, None)

    def test_checks(self):
        rng = random.Random(407)
        told = []
        for body in some_bodies(408, 100):
            for piece in flat_pieces(body.web):
                one, other = faced(body, piece, 1), faced(body, piece, -1)
                ones, mirrors = rows_leading(one, other), rows_leading(one, other.mirrored())
                for row in ones[:2] + mirrors[:2] + [tuple(range(len(one.web)))]:
                    self.assertIs(shows_faces(body, piece, One(list(row))), row in ones)
                    self.assertIs(shows_faces(body, piece, MirrorOf(row)), row in mirrors)
                trees = [any_tree(rng, one, other), any_tree(rng, one, other.mirrored())]
                if None not in trees:
                    self.assertIs(shows_faces(body, piece, Neither(*trees)), True)
                    for bent in rng.sample(bent_trees(rng, trees[0], 9), 4):
                        asked = is_right_tree(one, other, bent)
                        self.assertIs(shows_faces(body, piece, Neither(bent, trees[1])), asked)
                        told.append(asked)
        self.assertGreater(told.count(False), 20)
        row = tuple(range(5))
        for value in [*ODD_VALUES, PLAIN, row, Paper("mirrorof", row), Alike(row), MirrorOf]:
            self.assertIs(shows_faces(PLAIN, 0, value), False)
            self.assertIs(shows_faces(PLAIN, 0, MirrorOf(value)), value == row)
        self.assertIs(shows_faces(PLAIN, 0, MirrorOf([False, True, 2, 3, 4])), False)


def range_of(many):
    return list(range(many))


if __name__ == "__main__":
    unittest.main()
