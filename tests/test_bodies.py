import random
import unittest

from otherhand.bodies import Body, settings_of
from otherhand.errors import BadBody, BadLot, BadRow, BadWeb, NoMark, NoPiece, TooMany, Twice
from otherhand.webs import Web
from tests.helping import NO_INTEGERS, Asking
from tests.oracle import (
    any_body, any_row, leads, mirror, settings, some_webs, web_of, web_with_all_hubs,
)

STAR = Web(["c", "a", "b", "d"], [(0, 1), (0, 2), (0, 3)], [0])
CROSS = Web(["c", "a", "b", "d", "e"], [(0, 1), (0, 2), (0, 3), (0, 4)], [0])
SPLIT = web_of(6, [(0, 1), (0, 2), (0, 3), (1, 4), (1, 5)], [], [(0, 1)])
BOTH = web_of(7, [(0, 1), (0, 2), (0, 3), (3, 4), (4, 5), (5, 6)], [0], [(4, 5)])


class TestBodies(Asking):
    def test_errors(self):
        for web in (None, "a :", Body(STAR, [1]), ["a"], 4):
            self.assert_raises(BadWeb("web"), Body, web, None)
        for setting in (None, 1, True, "1", [], [1, 1], [0], [2], [True], ["1"], [[1]], [None],
                        [1.0], {1: 1}, {1}, (-2,)):
            self.assert_raises(BadBody("setting"), Body, STAR, setting)
        self.assertEqual(Body(STAR, (-1,)).setting, (-1,))
        self.assertEqual(Body(web_of(1, []), []).setting, ())

    def test_what_is_passed_is_copied(self):
        setting = [1, -1]
        body = Body(BOTH, setting)
        setting[0] = -1
        self.assertEqual(body.setting, (1, -1))
        self.assertEqual(body.web, BOTH)

    def test_hands_and_sides(self):
        body = Body(BOTH, [1, -1])
        self.assertEqual((body.hand(0), body.side((4, 5)), body.side([4, 5])), (1, -1, -1))
        for value in (1, 4, 7, -1, *NO_INTEGERS):
            self.assert_raises(NoMark(value), body.hand, value)
        for value in (0, 1, (5, 4), (0, 1), (4,), (4, 5, 6), (4, 5.0), ("4", "5"), [[4], 5],
                      *NO_INTEGERS):
            self.assert_raises(NoMark(value), body.side, value)

    def test_turned(self):
        body = Body(BOTH, [1, -1])
        asked = [([], (1, -1)), ([0], (-1, -1)), ((1,), (1, 1)), ([1, 0], (-1, 1))]
        for lot, setting in asked:
            self.assertEqual(body.turned(lot), Body(BOTH, setting))
        self.assertEqual(body.setting, (1, -1))
        for lot in (None, 0, True, "0", {}, [True], [None], [[0]], [0, "1"], {0}):
            self.assert_raises(BadLot("lot"), body.turned, lot)
        self.assert_raises(NoMark(2), body.turned, [0, 0, 2, -1])
        self.assert_raises(NoMark(-1), body.turned, (-1, 2))
        self.assert_raises(Twice(0), body.turned, [1, 0, 0, 1])
        self.assert_raises(NoMark(0), Body(web_of(1, []), []).turned, [0])

    def test_mirrored(self):
        self.assertEqual(Body(BOTH, [1, -1]).mirrored(), Body(BOTH, [-1, -1]))
        self.assertEqual(Body(SPLIT, [1]).mirrored(), Body(SPLIT, [1]))
        rng = random.Random(1)
        for web in some_webs(2, 60):
            body = any_body(rng, web)
            self.assertEqual(body.mirrored().setting, mirror(web, body.setting))
            self.assertEqual(body.mirrored().mirrored(), body)

    def test_with_kind(self):
        body = Body(STAR, [-1])
        self.assertEqual(body.with_kind(1, "z"), Body(STAR.with_kind(1, "z"), [-1]))
        for value in (4, -1, None, True):
            self.assert_raises(NoPiece(value), body.with_kind, value, 5)
        self.assert_raises(BadWeb("kind"), body.with_kind, 0, "Z")

    def test_renumbered_hands(self):
        body = Body(CROSS, [1])
        asked = [([0, 1, 2, 3, 4], 1), ([0, 2, 1, 3, 4], -1), ([0, 2, 3, 1, 4], 1),
                 ([1, 0, 2, 3, 4], 1), ([4, 3, 2, 1, 0], 1), ([0, 4, 2, 3, 1], -1)]
        for row, hand in asked:
            self.assertEqual(body.renumbered(row).setting, (hand,), row)
        # With a bare seat the three others alone change their order.
        self.assertEqual(Body(STAR, [1]).renumbered((3, 2, 1, 0)).setting, (-1,))
        self.assertEqual(Body(STAR, [1]).renumbered((2, 3, 1, 0)).setting, (1,))
        for row in (None, [0, 1, 2], [0, 1, 2, 2], [0, True, 2, 3], "0123"):
            self.assert_raises(BadRow("row"), Body(STAR, [1]).renumbered, row)

    def test_renumbered_sides(self):
        body = Body(SPLIT, [1])
        asked = [([0, 1, 2, 3, 4, 5], 1), ([0, 1, 3, 2, 4, 5], -1), ([0, 1, 3, 2, 5, 4], 1),
                 ([1, 0, 2, 3, 4, 5], 1), ([1, 0, 2, 3, 5, 4], -1), ([2, 3, 0, 1, 4, 5], 1)]
        for row, side in asked:
            self.assertEqual(body.renumbered(row).setting, (side,), row)
        alone = Body(web_of(4, [(0, 1), (1, 2), (2, 3)], [], [(1, 2)]), [-1])
        self.assertEqual(alone.renumbered([3, 2, 1, 0]).setting, (-1,))

    def test_renumbered_against_leading(self):
        rng = random.Random(3)
        for web in some_webs(4, 120):
            body = any_body(rng, web)
            row = any_row(rng, len(web))
            images = [row.index(piece) for piece in range(len(web))]
            told = body.renumbered(list(row))
            self.assertEqual(told.web, web.renumbered(row))
            self.assertEqual(told.setting, leads(web, told.web, images, body.setting))
            self.assertEqual(told.mirrored(), body.mirrored().renumbered(row))
            self.assertEqual(told.renumbered(images), body)
            other = any_row(rng, len(web))
            both = [row[piece] for piece in other]
            self.assertEqual(told.renumbered(other), body.renumbered(both))

    def test_settings_of(self):
        for web in (web_of(1, []), STAR, SPLIT, BOTH):
            self.assertEqual(list(settings_of(web)), settings(web))
        many = web_with_all_hubs(10, [(at, (at + 1) % 10) for at in range(10)]
                                 + [(at, at + 5) for at in range(5)])
        self.assertEqual(len(settings_of(many)), 1024)
        self.assertEqual(list(settings_of(many)), sorted(settings_of(many)))
        comb = [(at, at + 1) for at in range(12)]
        more = web_with_all_hubs(16, comb + [(1, 13), (3, 14), (5, 15)])
        self.assertEqual(len(settings_of(more)), 8)
        ring = [(at, (at + 1) % 12) for at in range(12)] + [(at, at + 6) for at in range(6)]
        self.assert_raises(TooMany("marks", 10), settings_of, web_with_all_hubs(12, ring))
        eleven = [at for at in range(11)]
        self.assert_raises(TooMany("marks", 10), settings_of, web_of(12, ring, eleven))
        for value in (None, 3, Body(STAR, [1]), "a :"):
            self.assert_raises(BadWeb("web"), settings_of, value)

    def test_equality(self):
        body = Body(BOTH, [1, -1])
        self.assertEqual(body, Body(BOTH, (1, -1)))
        self.assertNotEqual(body, Body(BOTH, (1, 1)))
        self.assertNotEqual(body, Body(BOTH.with_kind(0, "b"), (1, -1)))
        for value in (None, BOTH, str(body), (BOTH, (1, -1))):
            self.assertFalse(body == value)

    def test_methods_stand_in_the_class(self):
        for name in ("__init__", "__eq__", "__str__", "hand", "side", "turned", "mirrored",
                     "with_kind", "renumbered", "read"):
            self.assertIn(name, vars(Body))


if __name__ == "__main__":
    unittest.main()
