import random
import unittest

from otherhand.bodies import Body
from otherhand.errors import BadRow, BadWeb, NoMark, NoPiece, NoTie, TooMany, Twice
from otherhand.webs import Web
from tests.helping import NO_INTEGERS, ODD_VALUES, Asking
from tests.oracle import any_row, neighbours, others_of, some_webs, web_of

PATH = [(0, 1), (1, 2), (2, 3)]
STAR = [(0, 1), (0, 2), (0, 3)]
CROSS = [(0, 1), (0, 2), (0, 3), (0, 4)]
SPLIT = [(0, 1), (0, 2), (0, 3), (1, 4), (1, 5)]


class TestWebErrors(Asking):
    def test_kinds(self):
        for kinds in (None, True, 3, "ab", "a", {}, [], (), [1], ["A"], ["a", ""], ["a", None],
                      ["a" * 13], [["a"]], {"a": 1}, ["a", True], ["a b"]):
            self.assert_raises(BadWeb("kinds"), Web, kinds, None, None, None)

    def test_ties(self):
        for ties in (None, True, 3, "01", {}, [1], [(0,)], [(0, 1, 2)], [(0, 0)], [("0", "1")],
                     [(0, True)], [(0, None)], [(0, 1), 5], ["01"], [(9, 9)], [{0, 1}], [(0, 1.0)]):
            self.assert_raises(BadWeb("ties"), Web, ["a", "b"], ties, None, None)
        self.assert_raises(NoPiece(2), Web, ["a", "b"], [(0, 2)], None)
        self.assert_raises(NoPiece(-1), Web, ["a", "b"], [[0, 1], [0, -1]], None)
        self.assert_raises(NoPiece(9), Web, ["a", "b"], [(0, 1), (1, 0), (9, 8)], None)
        self.assert_raises(NoPiece(10 ** 40), Web, ["a"], [(10 ** 40, 0)], None)
        self.assert_raises(Twice((0, 1)), Web, ["a", "b"], [(0, 1), (1, 0)], None)
        self.assert_raises(Twice((1, 2)), Web, ["a"] * 3, [(0, 1), [2, 1], [1, 2], (0, 1)], None)
        five = [(0, at) for at in range(1, 6)]
        self.assert_raises(BadWeb("neighbours"), Web, ["a"] * 6, five, None)
        self.assert_raises(BadWeb("neighbours"), Web, ["a"] * 7, five, None)
        self.assert_raises(BadWeb("apart"), Web, ["a"] * 2, [], None)
        self.assert_raises(BadWeb("apart"), Web, ["a"] * 4, [(0, 1), (2, 3)], None)
        self.assert_raises(BadWeb("apart"), Web, ["a"] * 4, [(1, 2), (2, 3), (1, 3)], None)

    def test_hubs(self):
        for hubs in (None, True, 0, "0", {}, [True], [None], [(0,)], [0, "1"], {0}):
            self.assert_raises(BadWeb("hubs"), Web, ["a"] * 4, STAR, hubs, None)
        self.assert_raises(NoPiece(4), Web, ["a"] * 4, STAR, [0, 4, 0, -1], None)
        self.assert_raises(NoPiece(-1), Web, ["a"] * 4, STAR, [-1, 4], None)
        self.assert_raises(Twice(0), Web, ["a"] * 4, STAR, [1, 0, 0, 1], None)
        self.assert_raises(BadWeb("hub"), Web, ["a"] * 4, STAR, [0, 1], None)
        self.assert_raises(BadWeb("hub"), Web, ["a"] * 4, PATH, [1], None)
        self.assertEqual(Web(["a"] * 4, STAR, [0]).hubs, (0,))

    def test_stiff(self):
        for stiff in (None, True, 0, "01", {}, [1], [(0,)], [(0, 1, 2)], [(0, True)], [("0", 1)]):
            self.assert_raises(BadWeb("stiff"), Web, ["a"] * 4, PATH, [], stiff)
        self.assert_raises(NoTie((0, 2)), Web, ["a"] * 4, PATH, [], [(2, 1), (0, 2)])
        error = self.assert_raises(NoTie([3, 0]), Web, ["a"] * 4, PATH, [], [[3, 0], [1, 1]])
        self.assertIs(type(error.value), list)
        self.assert_raises(NoTie((1, 1)), Web, ["a"] * 4, PATH, [], [(1, 1)])
        self.assert_raises(NoTie((7, -8)), Web, ["a"] * 4, PATH, [], [(7, -8)])
        self.assert_raises(Twice((1, 2)), Web, ["a"] * 4, PATH, [], [(2, 1), [1, 2]])

    def test_each_reason_not_to_be_stiff(self):
        # An end without another neighbour.
        self.assert_raises(BadWeb("stiff"), Web, ["a"] * 4, PATH, [], [(0, 1)])
        # A hub, and an end with three others.
        self.assert_raises(BadWeb("stiff"), Web, ["a"] * 6, SPLIT, [1], [(0, 1)])
        wide = SPLIT + [(0, 6)]
        self.assert_raises(BadWeb("stiff"), Web, ["a"] * 7, wide, [], [(0, 1)])
        # Two stiff ties of one piece.
        long = PATH + [(3, 4)]
        self.assert_raises(BadWeb("stiff"), Web, ["a"] * 5, long, [], [(1, 2), (2, 3)])
        longer = long + [(4, 5)]
        self.assertEqual(Web(["a"] * 6, longer, [], [(4, 3), (1, 2)]).stiff, ((1, 2), (3, 4)))
        self.assertEqual(Web(["a"] * 6, SPLIT, [], [(1, 0)]).stiff, ((0, 1),))

    def test_pieces(self):
        path = [(at, at + 1) for at in range(15)]
        self.assertEqual(len(Web(["a"] * 16, path)), 16)
        path.append((15, 16))
        self.assert_raises(TooMany("pieces", 16), Web, ["a"] * 17, path)
        self.assert_raises(BadWeb("hub"), Web, ["a"] * 17, path, [3])
        self.assert_raises(BadWeb("stiff"), Web, ["a"] * 17, path, [], [(0, 1)])
        self.assert_raises(NoTie((0, 2)), Web, ["a"] * 17, path, [], [(0, 2)])

    def test_two_faults_the_first_one_is_told(self):
        self.assert_raises(BadWeb("kinds"), Web, [], [(0, 0)], 5, 5)
        self.assert_raises(BadWeb("ties"), Web, ["a"], [(0, 5), (1, 1)], 5, 5)
        self.assert_raises(NoPiece(5), Web, ["a", "a"], [(0, 1), (0, 1), (0, 5)], 5, 5)
        self.assert_raises(Twice((0, 1)), Web, ["a"] * 3, [(0, 1), (0, 1)], 5, 5)
        self.assert_raises(BadWeb("apart"), Web, ["a"] * 5, STAR, [1], 5)
        self.assert_raises(NoPiece(9), Web, ["a"] * 4, STAR, [1, 1, 9], 5)
        self.assert_raises(Twice(1), Web, ["a"] * 4, STAR, [1, 1], 5)
        self.assert_raises(BadWeb("hub"), Web, ["a"] * 4, STAR, [1], 5)
        self.assert_raises(BadWeb("stiff"), Web, ["a"] * 4, STAR, [0], [(0, 1)])

    def test_thousands_of_pieces_take_a_short_time(self):
        many = 20000
        path = [(at, at + 1) for at in range(many - 1)]
        self.assert_raises(TooMany("pieces", 16), Web, ["a"] * many, path[::-1])
        self.assert_raises(BadWeb("apart"), Web, ["a"] * many, path[1:])
        stiff = path[1:-1:2]
        self.assert_raises(TooMany("pieces", 16), Web, ["a"] * many, path, [], stiff)
        combed = path[:10000] + [(at, at + 10000) for at in range(1, 10000)]
        hubs = list(range(1, 10000))
        self.assert_raises(TooMany("pieces", 16), Web, ["a"] * 20001, [*combed, (0, 20000)], hubs)


class TestWebs(Asking):
    def test_attributes(self):
        web = Web(("b", "a", "c", "d", "e", "f"), [[1, 0], (4, 1), [0, 2], (3, 0), [5, 1]], [],
                  [[1, 0]])
        self.assertEqual(web.kinds, ("b", "a", "c", "d", "e", "f"))
        self.assertEqual(web.ties, ((0, 1), (0, 2), (0, 3), (1, 4), (1, 5)))
        self.assertEqual((web.hubs, web.stiff, web.marks), ((), ((0, 1),), ((0, 1),)))
        self.assertEqual((web.is_tree, len(web)), (True, 6))
        self.assertEqual(web.others((0, 1)), ((2, 3), (4, 5)))
        ring = web_of(3, [(0, 1), (1, 2), (2, 0)])
        self.assertIs(ring.is_tree, False)
        self.assertIs(web_of(1, []).is_tree, True)
        two = Web(["a"] * 8, [(0, at) for at in (1, 2, 3)] + [(7, at) for at in (6, 5, 4, 3)],
                  [7, 0])
        self.assertEqual((two.hubs, two.marks), ((0, 7), (0, 7)))
        both = Web(["a"] * 7, STAR + [(3, 4), (4, 5), (5, 6)], [0], [[5, 4]])
        self.assertEqual(both.marks, (0, (4, 5)))

    def test_lists_changed_behind(self):
        kinds, ties, hubs, stiff = ["a"] * 4, [[0, 1], [0, 2], [3, 0]], [0], []
        web = Web(kinds, ties, hubs, stiff)
        text = str(web)
        kinds[0] = "b"
        ties[0][1] = 3
        hubs.append(1)
        stiff.append((0, 1))
        ties.pop()
        self.assertEqual(str(web), text)
        self.assertEqual(str(web), "a* a a a : 0 1 / 0 2 / 0 3")

    def test_neighbours_and_seats(self):
        web = Web(["a"] * 6, [(5, 0), (3, 0), (0, 4), (1, 0), (1, 2)], [0])
        self.assertEqual([web.neighbours(at) for at in range(6)],
                         [(1, 3, 4, 5), (0, 2), (1,), (0,), (0,), (0,)])
        self.assertEqual(web.seats(0), (1, 3, 4, 5))
        self.assertEqual(Web(["a"] * 4, STAR, [0]).seats(0), (None, 1, 2, 3))
        for value in (6, -1, 10 ** 30, *NO_INTEGERS):
            self.assert_raises(NoPiece(value), web.neighbours, value)
            self.assert_raises(NoMark(value), web.seats, value)
        self.assert_raises(NoMark(1), web.seats, 1)
        self.assert_raises(NoMark(False), web.seats, False)

    def test_others(self):
        web = web_of(6, SPLIT)
        self.assertEqual(web.others([0, 2]), ((1, 3), ()))
        self.assertEqual(web.others((1, 4)), ((0, 5), ()))
        for value in ((1, 0), (2, 3), (0,), (0, 1, 2), (0, True), [[0], 1], *ODD_VALUES):
            if value != ((0, 1),):
                self.assert_raises(NoTie(value), web.others, value)
        for web in some_webs(1, 40):
            for low, high in web.ties:
                asked = (others_of(web, low, high), others_of(web, high, low))
                self.assertEqual(web.others((low, high)), tuple(map(tuple, asked)))
            for piece in range(len(web)):
                self.assertEqual(list(web.neighbours(piece)), neighbours(web, piece))

    def test_with_kind(self):
        web = Web(["a"] * 6, SPLIT, [], [(0, 1)])
        other = web.with_kind(2, "z9")
        self.assertEqual(other, Web(["a", "a", "z9", "a", "a", "a"], SPLIT, (), [(0, 1)]))
        self.assertEqual(web.kinds, ("a",) * 6)
        for value in (6, -1, None, True, "0"):
            self.assert_raises(NoPiece(value), web.with_kind, value, 5)
        for kind in (None, True, 1, "", "A", "1", ["a"], "a" * 13):
            self.assert_raises(BadWeb("kind"), web.with_kind, 0, kind)

    def test_renumbered(self):
        web = Web(["a", "b", "c", "d"], STAR, [0])
        self.assertEqual(str(web.renumbered([3, 0, 2, 1])), "d a* c b : 0 1 / 1 2 / 1 3")
        self.assertEqual(web.renumbered((0, 1, 2, 3)), web)
        for row in (None, 5, "0123", [0, 1, 2], [0, 1, 2, 3, 4], [0, 1, 2, 2], [1, 2, 3, 4],
                    [0, True, 2, 3], [[0], 1, 2, 3], [0, 1, 2, "3"], {}):
            self.assert_raises(BadRow("row"), web.renumbered, row)
        rng = random.Random(2)
        for web in some_webs(3, 60):
            row = any_row(rng, len(web))
            other = web.renumbered(list(row))
            self.assertEqual(other.kinds, tuple(web.kinds[piece] for piece in row))
            for one in range(len(web)):
                for two in range(one + 1, len(web)):
                    old = tuple(sorted((row[one], row[two])))
                    self.assertEqual((one, two) in other.ties, old in web.ties)
                    self.assertEqual((one, two) in other.stiff, old in web.stiff)
                self.assertEqual(one in other.hubs, row[one] in web.hubs)

    def test_equality(self):
        web = Web(["a"] * 6, SPLIT, [], [(0, 1)])
        self.assertEqual(web, Web(("a",) * 6, [list(tie)[::-1] for tie in SPLIT], [], [[1, 0]]))
        self.assertNotEqual(web, Web(["a"] * 6, SPLIT))
        self.assertNotEqual(Web(["a"] * 6, SPLIT), Web(["a"] * 6, SPLIT, [0]))
        self.assertNotEqual(Web(["a"] * 6, SPLIT), Web(["a"] * 5 + ["b"], SPLIT))
        self.assertNotEqual(web_of(4, PATH), web_of(4, STAR))
        for value in (None, str(web), 6, ("a",) * 6, Body(Web(["a"], []), [])):
            self.assertFalse(web == value)
            self.assertTrue(web != value)

    def test_methods_stand_in_the_class(self):
        for name in ("__init__", "__len__", "__eq__", "__str__", "neighbours", "others", "seats",
                     "with_kind", "renumbered", "read"):
            self.assertIn(name, vars(Web))


if __name__ == "__main__":
    unittest.main()
