import unittest

from otherhand.answers import NeverSummed, NeverTried, NoBody, Open, Summed, Tried
from otherhand.counting import Means
from otherhand.framed import MirrorSwung, Swung, Unswung
from otherhand.letters import Names
from otherhand.papers import Denial, Paper, fixed
from otherhand.places import Alike, MirrorAlike, Unlike
from otherhand.refusing import Led, Refused
from otherhand.sameness import Handed, MirrorOf, Mirrorlike, Neither, One
from otherhand.shifts import Shifts, Shut
from otherhand.sorts import Sway
from otherhand.turnings import Turns
from otherhand.twists import Barred, By
from otherhand.windows import ChainBy, NoChain
from otherhand.works import HandedAt, Handless, KeepsBalance, Upsets

CLASSES = {
    Led: ("row",),
    Refused: ("tree",),
    One: ("row",),
    MirrorOf: ("row",),
    Neither: ("tree", "mirrored"),
    Mirrorlike: ("row",),
    Handed: ("tree",),
    Sway: ("how", "counting", "lacking"),
    Means: ("rows",),
    Alike: ("row",),
    MirrorAlike: ("row",),
    Unlike: ("tree", "mirrored"),
    Names: ("letters", "ranks"),
    Turns: ("lot", "row"),
    By: ("numbers", "row"),
    Barred: ("rows",),
    Handless: (),
    HandedAt: ("setting",),
    KeepsBalance: (),
    Upsets: ("setting",),
    Summed: ("numbers",),
    Tried: ("tree",),
    Open: ("one", "other"),
    NeverSummed: ("numbers",),
    NeverTried: ("tree",),
    NoBody: ("tree",),
    ChainBy: ("setting",),
    NoChain: ("why", "words"),
    Swung: ("row",),
    MirrorSwung: ("row",),
    Unswung: ("seats", "mirrored"),
    Shifts: ("steps", "row"),
    Shut: ("sorts",),
}
DENIALS = (Refused, Neither, Handed, Unlike, Barred, HandedAt, Upsets, NeverSummed, NeverTried, NoBody, NoChain,
           Unswung, Shut)


class TestPapers(unittest.TestCase):
    def test_fixed(self):
        held = object()
        asked = [
            ([], ()), ((), ()), ([1, [2, (3, [4])]], (1, (2, (3, (4,))))), ("ab", "ab"),
            (None, None), (True, True), (held, held), ({"a": [1]}, {"a": [1]}),
            ([{"a": [1]}], ({"a": [1]},)), (5, 5),
        ]
        for value, answer in asked:
            self.assertEqual(fixed(value), answer)
        deep = []
        for _ in range(59):
            deep = [deep]
        told = fixed(deep)
        for _ in range(59):
            self.assertIs(type(told), tuple)
            told = told[0]
        self.assertEqual(told, ())

    def test_paper_and_denial(self):
        rows = [1, [2]]
        paper = Paper("note", rows, 3)
        rows[1].append(4)
        self.assertEqual((paper.word, paper.parts), ("note", ((1, (2,)), 3)))
        self.assertEqual((Denial("no").word, Denial("no").parts), ("no", ()))
        self.assertIs(bool(paper), True)
        self.assertIs(bool(Denial("no", 1)), False)
        self.assertTrue(issubclass(Denial, Paper))
        for made in (Paper, Denial):
            for method in ("__init__", "__eq__", "__bool__"):
                self.assertIn(method, vars(made))

    def test_equality(self):
        self.assertEqual(Paper("a", [1, (2,)]), Paper("a", (1, [2])))
        self.assertNotEqual(Paper("a", 1), Paper("b", 1))
        self.assertNotEqual(Paper("a", 1), Paper("a", 1, 1))
        self.assertNotEqual(Paper("a"), Denial("a"))
        self.assertNotEqual(Denial("a"), Paper("a"))
        self.assertEqual(Denial("a", []), Denial("a", ()))
        self.assertNotEqual(Paper("led", (0,)), Led((0,)))
        self.assertNotEqual(Led((0,)), Paper("led", (0,)))
        self.assertNotEqual(One((0,)), MirrorOf((0,)))
        self.assertNotEqual(Refused("pieces"), Handed("pieces"))
        self.assertNotEqual(Refused("pieces"), Denial("refused", "pieces"))
        self.assertFalse(Paper("a") == "a" or Paper("a") == None or Paper("a") == ())  # noqa: E711

    def test_classes_of_papers(self):
        for made, names in CLASSES.items():
            told = [[k, [None, "x", [k]]] for k in range(len(names))]
            asked = tuple((k, (None, "x", (k,))) for k in range(len(names)))
            for paper in (made(*told), made(**dict(zip(names, told)))):
                self.assertEqual(paper.word, made.__name__.lower())
                self.assertEqual(paper.parts, asked)
                self.assertEqual(tuple(getattr(paper, name) for name in names), asked)
                self.assertEqual(paper, made(*asked))
                self.assertIsInstance(paper, Paper)
                self.assertEqual(isinstance(paper, Denial), made in DENIALS)
                self.assertIs(bool(paper), made not in DENIALS)
            for value in (None, True, 3, "x", {}, object()):
                paper = made(*[value for _ in names])
                self.assertTrue(all(getattr(paper, name) is value for name in names))


if __name__ == "__main__":
    unittest.main()
