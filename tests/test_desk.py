"""The desk and its stories, step by step against a list of shelves."""

import random
import time
import unittest

from otherhand.bodies import Body
from otherhand.desk import Desk
from otherhand.desk_asks import answer_of
from otherhand.desk_deeds import changed
from otherhand.desk_lines import ASKS
from otherhand.errors import BadDesk, BadLine, BadNumber, BadText, HandError, Impossible, NoName, Nothing, Twice
from otherhand.shelves import Shelf
from otherhand.stories import merged, parting, replay
from otherhand.webs import Web
from tests.helping import ODD_VALUES, Agreeing, Asking
from tests.test_answers import RING
from tests.test_desk_deeds import NAMES, SPEAKING, any_ask, any_deed, some_body

STORY = ["put g c+ a b d : 0 1 / 0 2 / 0 3", "mirror g", "about g", "tell product 1 0"]
BAD_LINES = ["", "xyz", "names ", "drop nobody", "show nobody", "turn g 99", "put g", "saying 9", None, 3, ["names"],
             True, b"names"]


class Model:
    """What a desk is to be: the shelves from the first one on, and the lines behind each."""

    def __init__(self):
        self.shelves, self.story, self.undone = [Shelf()], [], []

    def twin(self):
        other = Model()
        other.shelves, other.story, other.undone = list(self.shelves), list(self.story), list(self.undone)
        return other

    def tell(self, line):
        """The answer, or the error, of a line; it is done if there is none."""
        shelf = self.shelves[-1]
        try:
            if isinstance(line, str) and line.split(" ")[0] in ASKS:
                return answer_of(shelf, line)
            shelf, answer = changed(shelf, line)
        except HandError as error:
            return error
        self.shelves.append(shelf)
        self.story.append(line)
        self.undone = []
        return answer


def any_line(rng, shelf):
    if rng.random() < 0.1:
        return rng.choice(BAD_LINES)
    if rng.random() < 0.3:
        return any_ask(rng, shelf)[0]
    return any_deed(rng, dict(shelf.bodies), shelf.about, shelf.sayings)[0]


def fields(error):
    """The fields of an error, those of an error within it, too."""
    found = {}
    for name, value in vars(error).items():
        found[name] = (type(value), fields(value)) if isinstance(value, HandError) else value
    return found


class DeskCase(Asking):
    def assert_is(self, desk, model):
        shelf = model.shelves[-1]
        self.assertEqual(desk.shelf, shelf)
        self.assertEqual(desk.story, tuple(model.story))
        self.assertIs(type(desk.story), tuple)
        self.assertEqual(len(desk), len(shelf.sayings))
        for name in ("a", "b", "c", "d9", "n1", "z"):
            self.assertIs(name in desk, name in shelf.names)

    def assert_bad_line(self, index, error, call, *lines):
        with self.assertRaises(BadLine) as caught:
            call(*lines)
        self.assertEqual(caught.exception.line, index)
        self.assertIs(type(caught.exception.error), type(error))
        self.assertEqual(fields(caught.exception.error), fields(error))


class TestDesk(DeskCase):
    def test_against_a_list_of_shelves(self):
        rng = random.Random(1901)
        met = []
        for _ in range(100):
            desks = [(Desk(), Model())]
            if rng.random() < 0.5:
                for line in [f"put {name} {some_body(rng)}" for name in NAMES[:3]]:
                    self.assertEqual(desks[0][0](line), desks[0][1].tell(line))
            for _ in range(40):
                desk, model = rng.choice(desks)
                how = rng.choice(("told", "told", "told", "call", "call", "tried", "undo", "undo", "redo", "redo",
                                  "twin"))
                met.append((how, self.step(rng, how, desk, model, desks)))
                for each, its in desks:
                    self.assert_is(each, its)
            self.assertEqual(desks[0][0] == desks[-1][0], desks[0][1].shelves[-1] == desks[-1][1].shelves[-1])
        for how in ("told", "call", "tried", "undo", "redo"):
            for answer in (True, False):
                self.assertGreater(met.count((how, answer)), 30, (how, answer))

    def step(self, rng, how, desk, model, desks):
        """Does one thing to a desk and to its model; whether it was done without an error."""
        if how in ("undo", "redo"):
            left = model.story if how == "undo" else model.undone
            if not left:
                self.assert_raises(Nothing(), getattr(desk, how))
                return False
            if how == "undo":
                model.undone.append((model.story.pop(), model.shelves.pop()))
                self.assertEqual(desk.undo(), model.undone[-1][0])
            else:
                line, shelf = model.undone.pop()
                model.story.append(line)
                model.shelves.append(shelf)
                self.assertEqual(desk.redo(), line)
            return True
        if how == "twin":
            if len(desks) < 4:
                desks.append((desk.twin(), model.twin()))
            return True
        if how == "call":
            return self.call(rng, desk, model)
        made = model.twin()
        lines, answers = [], []
        for _ in range(rng.choice((0, 1, 1, 2, 3, 4))):
            lines.append(any_line(rng, made.shelves[-1]))
            answers.append(made.tell(lines[-1]))
            if isinstance(answers[-1], HandError):
                lines += [any_line(rng, made.shelves[-1]) for _ in range(rng.randint(0, 2))]
                self.assert_bad_line(len(answers) - 1, answers[-1], getattr(desk, how), *lines)
                return False
        self.assertEqual(getattr(desk, how)(*lines), tuple(answers))
        if how == "told":
            model.shelves, model.story, model.undone = made.shelves, made.story, made.undone
        return True

    def call(self, rng, desk, model):
        line = any_line(rng, model.shelves[-1])
        answer = model.tell(line)
        if not isinstance(answer, HandError):
            self.assertEqual(desk(line), answer)
            return True
        with self.assertRaises(type(answer)) as caught:
            desk(line)
        self.assertIs(type(caught.exception), type(answer))
        self.assertEqual(fields(caught.exception), fields(answer))
        return False

    def test_a_new_desk(self):
        desk = Desk()
        self.assertEqual((desk.shelf, desk.story, len(desk), "a" in desk), (Shelf(), (), 0, False))
        self.assertEqual(desk, Desk())
        self.assertEqual((desk.told(), desk.tried()), ((), ()))
        self.assert_raises(Nothing(), desk.undo)
        self.assert_raises(Nothing(), desk.redo)
        self.assertEqual(desk.told("names", "set"), ("-", "-"))
        for line in SPEAKING:
            self.assert_raises(Nothing(), desk, line)
            self.assert_bad_line(1, Nothing(), desk.told, "names", line)

    def test_all_or_not_at_all(self):
        desk = Desk()
        self.assertEqual(desk.told(*STORY), ("1", "c- a b d : 0 1 / 0 2 / 0 3", "1", "0"))
        desk.undo()
        before = desk.twin()
        for lines, index, error in ((("tell product 1 0", "drop g", "show g", "xyz"), 2, NoName("g")),
                                    (("strike 0",), 0, BadNumber("number")),
                                    (("names", "mirror g", "put g d :"), 2, Twice("g")),
                                    (("turn g 0", "names x"), 1, BadText(0, 1)),
                                    (("tell mirrorlike yes", "tell product -1", "judge mirrorlike yes"), 2, None)):
            for call in (desk.told, desk.tried):
                with self.assertRaises(BadLine) as caught:
                    call(*lines)
                self.assertEqual(caught.exception.line, index)
                told = caught.exception.error
                if error is None:
                    self.assertIs(type(told), Impossible)
                else:
                    self.assertEqual((type(told), vars(told)), (type(error), vars(error)))
                self.assertEqual((desk, desk.story), (before, before.story))
        # What can be done again is as before, too.
        self.assertEqual(desk.redo(), STORY[3])
        self.assertEqual(desk("saying 0"), "product 1 0")

    def test_what_can_be_done_again(self):
        desk = Desk()
        desk.told(*STORY)
        for _ in range(3):
            desk.undo()
        self.assertEqual(desk.told("names", "show g"), ("g", "c+ a b d : 0 1 / 0 2 / 0 3"))
        self.assertEqual(desk("names"), "g")
        self.assert_bad_line(1, NoName("x"), desk.told, "mirror g", "drop x")
        self.assert_raises(NoName("x"), desk, "drop x")
        self.assertEqual(desk.tried("mirror g", "drop g"), ("c- a b d : 0 1 / 0 2 / 0 3", "0"))
        self.assertEqual([desk.redo(), desk.redo()], [STORY[1], STORY[2]])
        twin = desk.twin()
        self.assertEqual(twin.redo(), STORY[3])
        self.assert_raises(Nothing(), twin.redo)
        # A new deed, though it be the same one, ends what can be done again.
        self.assertEqual(desk(STORY[3]), "0")
        self.assert_raises(Nothing(), desk.redo)
        self.assertEqual((desk, desk.story), (twin, twin.story))
        self.assertEqual(twin.undo(), STORY[3])
        self.assertEqual(len(desk), 1)
        self.assertEqual(twin.told("sayings", "drop g"), ("0", "0"))
        self.assert_raises(Nothing(), twin.redo)
        self.assertEqual([twin.undo(), twin.undo(), twin.redo(), twin.redo()], ["drop g", STORY[2], STORY[2], "drop g"])
        self.assertEqual(twin.story, (*STORY[:3], "drop g"))

    def test_twins(self):
        desk = Desk()
        desk.told(*STORY)
        desk.undo()
        twin = desk.twin()
        self.assertEqual((twin == desk, twin.story), (True, desk.story))
        desk.told("drop g", "put h d :")
        self.assertEqual((twin == desk, "g" in twin, "h" in twin, "g" in desk), (False, True, False, False))
        self.assertEqual(twin.redo(), STORY[3])
        again = desk.twin()
        again.undo()
        self.assertEqual([desk.undo(), again.undo(), desk.redo()], ["put h d :", "drop g", "put h d :"])
        self.assertEqual([again.redo(), again.redo()], ["drop g", "put h d :"])
        self.assertEqual(again, desk)

    def test_equality(self):
        one, other = Desk(), Desk()
        one.told("put a d :", "mirror a", "put b d :")
        other.told("put a d :", "put b d :")
        self.assertIs(one == other, True)
        self.assertNotEqual(one.story, other.story)
        other.told("drop a", "put a d :")
        # The order in which they were put in counts.
        self.assertIs(one == other, False)
        one.told("about a")
        self.assertIs(one == Desk(), False)
        for value in (None, one.shelf, (), "a", 0):
            self.assertIs(Desk() == value, False)

    def test_what_is_in_a_desk(self):
        desk = Desk()
        desk.told("put g d :", "put names d :")
        for value in [*ODD_VALUES, "G", ("g",), ["g"], b"g", Agreeing(), desk, desk.shelf.body("g"), "h", "set"]:
            self.assertIs(value in desk, False)
        self.assertIs("g" in desk, True)
        self.assertIs("names" in desk, True)

    def test_taken_back_as_if_never_told(self):
        desk = Desk()
        desk.told(*STORY, "tell mirrorlike no")
        answers = desk.tried("fits", "sayings", "show g", "judge product 1 0", "best")
        desk.told("tell product -1 0", "kind g 1 b", "strike 2")
        desk.undo(), desk.undo(), desk.undo()
        self.assertEqual(desk.told("fits", "sayings", "show g", "judge product 1 0", "best"), answers)
        desk.told("tell product 1", "strike 2")
        self.assertEqual(desk.tried("fits", "sayings", "show g", "judge product 1 0", "best"), answers)
        desk.told("strike 0")
        self.assertEqual(desk.tried("sayings", "saying 0"), ("1", "mirrorlike no"))

    def test_short_times(self):
        begun = time.process_time()
        desk = Desk()
        desk.told("put a " + str(Body(Web(["h", "a", "b", "c"], [(0, 1), (0, 2), (0, 3)], [0]), [1])))
        for _ in range(2000):
            desk("turn a 0")
        self.assertEqual(len(desk.told(*["mirror a"] * 2000)), 2000)
        for _ in range(3000):
            desk.undo()
        self.assertEqual((len(desk.story), desk.redo()), (1001, "turn a 0"))
        many = Desk()
        many.told(*[f"put a{at} d :" for at in range(1000)])
        self.assertEqual((len(many.shelf.names), many("drop a500")), (1000, "999"))
        self.assertEqual(replay(many.story), many)
        desk.told(f"put r {Body(RING, [1] * 8)}", "about r")
        desk.told(*["tell one no " + " ".join(["1"] * at + ["-1"] * (8 - at)) for at in range(7)], "tell mirrorlike no")
        for line in ("best", "fits", "judge one yes 1 1 1 1 1 1 1 1", "judge mirrorlike yes", "sorts r", "least r"):
            desk(line)
        self.assertLess(time.process_time() - begun, 8)


class TestStories(DeskCase):
    def test_replay(self):
        rng = random.Random(1911)
        for _ in range(25):
            desk = self.any_desk(rng, Desk(), 12)
            again = replay(rng.choice((tuple, list))(desk.story))
            self.assertEqual((again == desk, again.story), (True, desk.story))
            self.assert_raises(Nothing(), again.redo)
            for _ in desk.story:
                self.assertEqual(again.undo(), desk.undo())
                self.assertEqual(again, desk)
        self.assertEqual(replay([]), Desk())

    def any_desk(self, rng, desk, many):
        for _ in range(many):
            try:
                desk(any_line(rng, desk.shelf))
            except HandError:
                pass
        return desk

    def test_errors_of_replay(self):
        for value in (None, True, 3, "", "names", {}, [None], [*STORY, 3], [STORY], {"drop a"}, [b"drop a"],
                      Desk()):
            self.assert_raises(BadDesk("lines"), replay, value)
        for word in ASKS:
            for rest in ("", " a", " ", " 0"):
                self.assert_bad_line(1, BadText(0, 0), replay, [STORY[0], word + rest, "xyz"])
        for lines, index, error in ((["drop a"], 0, NoName("a")), ([*STORY, "put g d :"], 4, Twice("g")),
                                    ([STORY[0], "tell mirrorlike yes"], 1, Nothing()), (["xyz"], 0, BadText(0, 0)),
                                    ([STORY[0], ""], 1, BadText(0, 0)), ([STORY[0], "kind g 0"], 1, BadText(0, 3))):
            self.assert_bad_line(index, error, replay, lines)

    def test_merged(self):
        rng = random.Random(1913)
        met = []
        for _ in range(120):
            first = Desk()
            if rng.random() < 0.8:
                first.told(*[f"put {name} {some_body(rng)}" for name in NAMES[:3]], "about a")
            one, other = (self.any_desk(rng, first.twin(), rng.choice((0, 4, 8, 15))) for _ in range(2))
            if rng.random() < 0.2:
                one.undo() if one.story else None
            stories = (one.story, other.story)
            many = 0
            while many < min(map(len, stories)) and stories[0][many] == stories[1][many]:
                many += 1
            self.assertEqual((parting(one, other), parting(other, one)), (many, many))
            asked, refused = Model(), []
            for line in one.story:
                self.assertNotIsInstance(asked.tell(line), HandError)
            for at in range(many, len(other.story)):
                if isinstance(asked.tell(other.story[at]), HandError):
                    refused.append(at)
            desk, numbers = merged(one, other)
            self.assertEqual((type(desk), numbers), (Desk, tuple(refused)))
            self.assert_is(desk, asked)
            self.assert_raises(Nothing(), desk.redo)
            self.assertEqual((one.story, other.story), stories)
            self.assertEqual(replay(desk.story), desk)
            met.append((len(refused) > 0, len(one.story) > many, len(other.story) - many > len(refused)))
        for at in range(3):
            for answer in (True, False):
                self.assertGreater([told[at] for told in met].count(answer), 4, (at, answer))

    def test_refused_lines(self):
        one, other = Desk(), Desk()
        one.told("put a d :", "put b d :", "drop a")
        other.told("put a d :", "kind a 0 e", "put c d :", "kind c 0 e", "drop a", "put a f :")
        self.assertEqual(parting(one, other), 1)
        desk, numbers = merged(one, other)
        self.assertEqual(numbers, (1, 4))
        self.assertEqual(desk.story, (*one.story, "put c d :", "kind c 0 e", "put a f :"))
        self.assertEqual(desk("names"), "b c a")
        self.assertEqual(merged(other, one)[1], ())
        self.assertEqual(merged(one, one), (one, ()))
        self.assertEqual(merged(Desk(), one)[0].story, one.story)

    def test_errors(self):
        desk = Desk()
        for value in (None, (), [], "a", 3, desk.shelf, desk.story, Desk):
            for call in (parting, merged):
                self.assert_raises(BadDesk("one"), call, value, None)
                self.assert_raises(BadDesk("other"), call, desk, value)


if __name__ == "__main__":
    unittest.main()
