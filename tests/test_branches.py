import unittest

from otherhand.bodies import Body
from otherhand.branches import ahead_of, behind, core_of, hanging, middle
from otherhand.errors import BadWeb, NoPiece
from tests.helping import NO_INTEGERS, Asking
from tests.oracle import neighbours, some_webs, web_of

RING = web_of(6, [(0, 1), (1, 2), (0, 2), (2, 3), (3, 4), (3, 5)])
LONG = web_of(5, [(0, 1), (1, 2), (2, 3), (3, 4)])
DOT = web_of(1, [])
EVERY = (core_of, middle, ahead_of, hanging, behind)


def farthest(web, piece):
    """How far the farthest piece is."""
    reached, far = {piece: 0}, [piece]
    for at in far:
        for other in neighbours(web, at):
            if other not in reached:
                reached[other] = reached[at] + 1
                far.append(other)
    return max(reached.values())


class TestBranches(Asking):
    def test_cores(self):
        asked = [(RING, (0, 1, 2)), (LONG, (2,)), (DOT, (0,)), (web_of(2, [(0, 1)]), (0, 1)),
                 (web_of(3, [(0, 2), (1, 2)]), (2,)), (web_of(4, [(0, 3), (3, 1), (1, 2)]), (1, 3))]
        for web, core in asked:
            self.assertEqual(core_of(web), core)
        # Two loops and the way between them.
        dumbbell = web_of(9, [(0, 1), (1, 2), (0, 2), (2, 3), (3, 4), (4, 5), (5, 6), (4, 6), (3, 7), (7, 8)])
        self.assertEqual(core_of(dumbbell), (0, 1, 2, 3, 4, 5, 6))
        self.assertEqual((ahead_of(dumbbell, 8), ahead_of(dumbbell, 7)), (7, 3))

    def test_the_middle_of_trees(self):
        for web in some_webs(20, 80, most=9, loops=0):
            far = [farthest(web, piece) for piece in range(len(web))]
            asked = tuple(piece for piece in range(len(web)) if far[piece] == min(far))
            self.assertEqual(middle(web), asked)
            self.assertEqual(core_of(web), asked)

    def test_aheads_and_branches(self):
        for web in some_webs(21, 80, most=9):
            core = core_of(web)
            for piece in range(len(web)):
                ahead = ahead_of(web, piece)
                self.assertEqual(ahead is None, piece in core)
                asked = [at for at in neighbours(web, piece) if at not in core and at != ahead]
                self.assertEqual(hanging(web, piece), tuple(asked))
                if ahead is None:
                    continue
                self.assertIn(ahead, neighbours(web, piece))
                found, left = {piece}, [piece]
                while left:
                    for at in hanging(web, left.pop()):
                        found.add(at)
                        left.append(at)
                self.assertEqual(behind(web, piece, ahead), tuple(sorted(found)))
                self.assertFalse(found & set(core))

    def test_errors(self):
        for call in EVERY:
            more = {core_of: [], middle: [], behind: [None, None]}.get(call, [None])
            for value in (None, 5, Body(DOT, []), "a :", ["a"]):
                self.assert_raises(BadWeb("web"), call, value, *more)
        for call in (ahead_of, hanging):
            for value in (6, -1, *NO_INTEGERS):
                self.assert_raises(NoPiece(value), call, RING, value)
        for value in (6, -1, *NO_INTEGERS):
            self.assert_raises(NoPiece(value), behind, RING, value, None)
            self.assert_raises(NoPiece(value), behind, RING, 3, value)
        self.assert_raises(BadWeb("tree"), middle, RING)
        for piece, ahead in ((3, 4), (2, 3), (2, 0), (3, 3), (3, 0), (4, 2), (0, 0)):
            self.assert_raises(BadWeb("branch"), behind, RING, piece, ahead)
        self.assertEqual(behind(RING, 4, 3), (4,))
        self.assertEqual(behind(LONG, 1, 2), (0, 1))
        self.assert_raises(BadWeb("branch"), behind, LONG, 2, 1)


if __name__ == "__main__":
    unittest.main()
