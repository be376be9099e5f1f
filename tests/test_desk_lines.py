"""Lines of a desk, read item by item, and shelves."""

import random
import unittest

from otherhand.bodies import Body
from otherhand.desk_lines import ASKS, DEEDS, read_line
from otherhand.errors import BadDesk, BadSaying, BadText, BadWeb, HandError, Misfit, NoMark, NoName, TooMany, Twice
from otherhand.sayings import IsMirrorlike, IsOne, Product, Told, saying_of
from otherhand.shelves import Shelf
from tests.helping import ODD_VALUES, Agreeing, Asking
from tests.oracle import any_body, some_webs
from tests.test_mixtures import NINE
from tests.test_sorts import FULL, STAR
from tests.test_turnings import PAIR

# The tables of the document, line by line.
DEED_LINES = [
    "put NEW BODY", "kind NAME P KIND", "turn NAME M ..", "mirror NAME", "exchange NAME P P P", "off NAME P",
    "join NEW NAME P OTHER Q", "drop NAME", "about NAME", "tell SAYING", "strike N ..",
]
ASK_LINES = [
    "names", "show NAME", "same NAME OTHER", "mirrorlike NAME", "sorts NAME", "counts NAME M", "way NAME M",
    "kins NAME", "open NAME", "alike NAME P P", "faces NAME P", "letters NAME", "fewest NAME OTHER", "least NAME",
    "chain N", "wreath N", "set", "sayings", "saying N", "fits", "judge SAYING", "best",
]
FORMS = {line.split()[0]: line.split()[1:] for line in DEED_LINES + ASK_LINES}
NAMES, NUMBERS = ("NEW", "NAME", "OTHER", "KIND"), ("P", "Q", "M", "N")
SIGNS_OF_NAMES = "abcdefghijklmnopqrstuvwxyz0123456789"
GOOD_NAMES = ["a", "b9", "abcdefghijkl", "put", "names"]
GOOD_NUMBERS = ["0", "7", "10", "9" * 60]
BAD_ITEMS = ["", "A", "1a", "a_b", "abcdefghijklm", "-1", "+1", "00", "01", "1.0", "9" * 61, "a\n", "\u0661", ":", "/",
             "-", "None"]
SAYINGS = [Product([], -1), Product([0, 3], 1), IsMirrorlike(), IsOne([1, -1], False), IsOne([])]


def is_name_item(item):
    return 1 <= len(item) <= 12 and all(sign in SIGNS_OF_NAMES for sign in item) and not item[0].isdigit()


def is_number_item(item):
    return item.isascii() and item.isdigit() and str(int(item[:70])) == item and len(item) < 61


def by_the_tables(line):
    """What a line stands for by the tables, or the index of the first item that cannot stand."""
    items = line.split(" ")
    if items[0] not in FORMS:
        return 0
    told = [items[0]]
    for form in FORMS[items[0]]:
        at = len(told)
        if form in ("BODY", "SAYING"):
            read = Body.read if form == "BODY" else saying_of
            if at == len(items):
                return at
            try:
                return (*told, read(" ".join(items[at:])))
            except BadText as error:
                return at + error.item
        if form == "..":
            rest = items[at:]
            for item in rest:
                if not is_number_item(item):
                    return at + rest.index(item)
            return (*told, *map(int, rest))
        if at == len(items) or not (is_name_item if form in NAMES else is_number_item)(items[at]):
            return at
        told.append(items[at] if form in NAMES else int(items[at]))
    return tuple(told) if len(told) == len(items) else len(told)


def any_items(rng, word):
    """A right line that begins with this word, as items."""
    items = [word]
    for form in FORMS[word]:
        if form in NAMES:
            items.append(rng.choice(GOOD_NAMES))
        elif form in NUMBERS:
            items.append(rng.choice(GOOD_NUMBERS))
        elif form == "..":
            items += [rng.choice(GOOD_NUMBERS) for _ in range(rng.randint(0, 3))]
        elif form == "BODY":
            items += str(any_body(rng, some_webs(rng.random(), 1, most=5)[0])).split(" ")
        else:
            items += str(rng.choice(SAYINGS)).split(" ")
    return items


class TestReadLine(Asking):
    def test_the_words(self):
        self.assertEqual(DEEDS, tuple(line.split()[0] for line in DEED_LINES))
        self.assertEqual(ASKS, tuple(line.split()[0] for line in ASK_LINES))

    def test_right_lines(self):
        rng = random.Random(1701)
        for word in [*DEEDS, *ASKS] * 6:
            line = " ".join(any_items(rng, word))
            found = read_line(line)
            self.assertIs(type(found), tuple)
            self.assertEqual(found, by_the_tables(line))
            self.assertEqual([type(part) for part in found], [type(part) for part in by_the_tables(line)])

    def test_bent_lines(self):
        rng = random.Random(1703)
        refused = 0
        for word in [*DEEDS, *ASKS]:
            for _ in range(3):
                items = any_items(rng, word)
                for at in range(len(items) + 1):
                    made = [items[:at] + [item] + items[at:] for item in BAD_ITEMS + GOOD_NAMES + GOOD_NUMBERS]
                    made += [items[:at] + [item] + items[at + 1:] for item in BAD_ITEMS + GOOD_NAMES + GOOD_NUMBERS]
                    made += [items[:at] + items[at + 1:], items[:at], items + items[:at]]
                    for bent in made:
                        refused += self.check(" ".join(bent))
        self.assertGreater(refused, 3000)

    def check(self, line):
        """1 if the line is refused as the tables tell."""
        asked = by_the_tables(line)
        if isinstance(asked, int):
            self.assert_raises(BadText(0, asked), read_line, line)
            return 1
        self.assertEqual(read_line(line), asked)
        return 0

    def test_single_lines(self):
        for line, item in (("", 0), (" ", 0), ("Put a d :", 0), ("put", 1), ("put ", 1), ("put a", 2), ("put a ", 2),
                           ("put 1 d :", 1), ("put a d", 3), ("put a d : 0", 4), ("put a A :", 2), ("names ", 1),
                           ("names a", 1), (" names", 0), ("kind a 0", 3), ("kind a 0 B", 3), ("kind a x b", 2),
                           ("kind a 0 b c", 4), ("turn a", 2), ("turn", 1), ("turn a 0 ", 3), ("turn a 0 x 1", 3),
                           ("strike", 1), ("strike ", 1), ("strike 0 1 b", 3), ("exchange a 0 1", 4),
                           ("exchange a 0 1 2 3", 5), ("join a b 0 c", 5), ("join a 0 b 0 c", 2), ("tell", 1),
                           ("tell x", 1), ("tell product", 2), ("tell product 1 1 0", 4), ("judge one yes 2", 3),
                           ("same a", 2), ("same a b c", 3), ("chain", 1), ("chain a", 1), ("chain -1", 1),
                           ("best 0", 1), ("set ", 1), ("alike a 0", 3), ("saying 0 1", 2), ("xyz a", 0)):
            self.assert_raises(BadText(0, item), read_line, line)
        self.assertEqual(read_line("turn a 1 1 0"), ("turn", "a", 1, 1, 0))
        self.assertEqual(read_line("join a a 0 a 0"), ("join", "a", "a", 0, "a", 0))
        self.assertEqual(read_line("same same same"), ("same", "same", "same"))
        self.assertEqual(read_line("exchange a 3 2 " + "9" * 60), ("exchange", "a", 3, 2, int("9" * 60)))
        self.assertEqual(str(read_line("put put put* : 0 1".replace("*", "+").replace("+ : 0 1", " :"))[2]), "put :")

    def test_no_string(self):
        for value in (*ODD_VALUES, ["names"], ("names",), b"names", Agreeing()):
            if not isinstance(value, str):
                self.assert_raises(BadText(0, 0), read_line, value)

    def test_long_lines(self):
        self.assert_raises(BadText(0, 1), read_line, "strike" + " x" * 40000)
        self.assertEqual(len(read_line("strike" + " 1" * 40000)), 40001)
        self.assert_raises(BadText(0, 18), read_line, "put a" + " a" * 40000)
        self.assert_raises(BadText(0, 0), read_line, "a" * 100000)


class TestShelf(Asking):
    def test_what_is_kept(self):
        one, other = Body(PAIR, [1, -1]), Body(STAR, [1])
        bodies, sayings = [("b", one), ["a", other]], [IsMirrorlike()]
        shelf = Shelf(bodies, PAIR, sayings)
        bodies.append(("c", one))
        bodies[1][0] = "z"
        sayings.append(IsMirrorlike())
        self.assertEqual(shelf.bodies, (("b", one), ("a", other)))
        self.assertEqual((shelf.names, shelf.about, shelf.sayings), (("b", "a"), PAIR, (IsMirrorlike(),)))
        self.assertEqual((shelf.body("a"), shelf.body("b")), (other, one))
        empty = Shelf()
        self.assertEqual((empty.bodies, empty.names, empty.about, empty.sayings), ((), (), None, ()))
        self.assertEqual(empty, Shelf([], None, []))
        self.assertEqual(Shelf(about=PAIR), Shelf((), PAIR, ()))

    def test_equality(self):
        one, other = ("a", Body(PAIR, [1, -1])), ("b", Body(STAR, [1]))
        shelf = Shelf([one, other], PAIR, [IsMirrorlike()])
        self.assertEqual(shelf, Shelf((list(one), other), PAIR, (IsMirrorlike(True),)))
        for unlike in (Shelf([other, one], PAIR, [IsMirrorlike()]), Shelf([one], PAIR, [IsMirrorlike()]),
                       Shelf([one, other], PAIR), Shelf([one, other]), Shelf([one, other], PAIR, [IsMirrorlike(False)]),
                       Shelf([one, other], PAIR.with_kind(0, "z"), [IsMirrorlike()])):
            self.assertIs(shelf == unlike, False)
        for value in (None, shelf.bodies, PAIR, "a"):
            self.assertIs(shelf == value, False)

    def test_errors(self):
        pair = ("a", Body(STAR, [1]))
        bad = [None, True, 3, "ab", {}, [None], pair, [pair, ("b",)], [pair, ("b", STAR)], [("A", pair[1])],
               [("1", pair[1])], [(None, pair[1])], [("", pair[1])], [pair[::-1]], {"a": pair[1]}, [pair, pair[1]],
               [("b", pair[1], 1)], ["ab"]]
        for value in bad:
            self.assert_raises(BadDesk("bodies"), Shelf, value, 3, 3)
        self.assert_raises(Twice("b"), Shelf, [pair, ("b", pair[1]), ("b", pair[1]), pair], 3)
        for value in (True, 0, "", "a", pair, [], Told(STAR), pair[1]):
            self.assert_raises(BadWeb("about"), Shelf, [pair], value, 3)
        for about in (None, PAIR):
            for value in (None, True, 3, "", "product 1", {}, IsMirrorlike(), [None], ["product 1"], {IsMirrorlike: 1}):
                self.assert_raises(BadSaying("sayings"), Shelf, [pair], about, value)
        self.assert_raises(BadSaying("sayings"), Shelf, [pair], None, [IsMirrorlike()])
        self.assert_raises(BadSaying("sayings"), Shelf, [], None, [Product([9], 1)])
        self.assert_raises(NoMark(2), Shelf, [], PAIR, [Product([2], 1), IsOne([1])])
        self.assert_raises(Misfit("marks"), Shelf, [], PAIR, [IsOne([1]), Product([2], 1)])
        self.assert_raises(TooMany("marks", 8), Shelf, [], NINE)
        self.assert_raises(TooMany("marks", 8), Shelf, [], NINE, [IsMirrorlike()] * 9)
        self.assert_raises(TooMany("sayings", 8), Shelf, [], PAIR, [IsMirrorlike()] * 9)
        self.assertEqual(len(Shelf([], FULL, [IsMirrorlike()] * 8).sayings), 8)

    def test_errors_of_body(self):
        shelf = Shelf([("a", Body(STAR, [1]))])
        for value in [*ODD_VALUES, "b", "A", ("a",), ["a"], b"a", Agreeing(), STAR]:
            if value != "a" or isinstance(value, Agreeing):
                self.assert_raises(NoName(value), shelf.body, value)
        with self.assertRaises(HandError):
            Shelf().body("a")


if __name__ == "__main__":
    unittest.main()
