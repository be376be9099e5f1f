"""Sayings: made, told as texts, and held against all renamings; what is told of a body."""

import random
import unittest

from otherhand.bodies import Body
from otherhand.errors import (
    BadBody, BadLot, BadNumber, BadSaying, BadText, BadWeb, Misfit, NoMark, TooMany, Twice,
)
from otherhand.sayings import IsMirrorlike, IsOne, Product, Told, holds_in, saying_of
from otherhand.webs import Web
from tests.helping import ODD_VALUES, Agreeing, Asking
from tests.oracle import all_rows, any_body, any_setting, leads, mirror, rows_leading
from tests.test_counting import BUSH
from tests.test_mixtures import NINE
from tests.test_sorts import FULL, STAR, TWELVE
from tests.test_turnings import PAIR, webs_with_marks

TEXTS = [
    ("product 1", Product([], 1)), ("product -1", Product((), -1)), ("product 1 0", Product([0], 1)),
    ("product -1 0 1", Product([1, 0], -1)), ("product 1 7 10 100", Product([100, 7, 10], 1)),
    ("product 1 " + "9" * 60, Product([int("9" * 60)], 1)),
    ("mirrorlike yes", IsMirrorlike()), ("mirrorlike no", IsMirrorlike(False)),
    ("one yes", IsOne([])), ("one no", IsOne((), False)), ("one yes 1 -1", IsOne([1, -1])),
    ("one no -1 -1 1", IsOne((-1, -1, 1), False)),
]
FAULTS = [
    ("", 0), (" ", 0), ("a", 0), ("products 1", 0), ("Product 1", 0), (" product 1", 0), ("1", 0), ("yes", 0),
    ("product", 1), ("product ", 1), ("product  1", 1), ("product 0", 1), ("product +1", 1), ("product 2", 1),
    ("product yes", 1), ("product -", 1), ("product 01", 1), ("product -01", 1), ("product 11 0", 1),
    ("product 1 ", 2), ("product 1 -1", 2), ("product 1 -0", 2), ("product 1 00", 2), ("product 1 x", 2),
    ("product 1 +1", 2), ("product 1 1 0", 3), ("product 1 1 1", 3), ("product 1 0 0 7", 3),
    ("product 1 0 2 1 x", 4), ("product 1 0  1", 3), ("product 1 0 1 ", 4), ("product 1 " + "9" * 61, 2),
    ("product 1 " + "9" * 90000, 2), ("product 1 1\n", 2), ("product\t1", 0), ("product 1 \u0661", 2),
    ("mirrorlike", 1), ("mirrorlike ", 1), ("mirrorlike Yes", 1), ("mirrorlike 1", 1), ("mirrorlike true", 1),
    ("mirrorlike yes ", 2), ("mirrorlike yes no", 2), ("mirrorlike no 1", 2), ("mirrorlike  yes", 1),
    ("one", 1), ("one ", 1), ("one 1", 1), ("one maybe 1", 1), ("one yes ", 2), ("one yes 0", 2),
    ("one yes 1 -1 2", 4), ("one no 1 1 ", 4), ("one no  1", 2), ("one no yes", 2), ("one no 01", 2),
]


class TestMade(Asking):
    def test_attributes(self):
        lot, setting = [2, 0, 5], [1, -1]
        product, one = Product(lot, -1), IsOne(setting, False)
        lot.append(3)
        setting[0] = -1
        self.assertEqual((product.lot, product.sign), ((0, 2, 5), -1))
        self.assertEqual((one.setting, one.is_so), ((1, -1), False))
        self.assertIs(IsMirrorlike().is_so, True)
        self.assertIs(IsMirrorlike(False).is_so, False)
        self.assertIs(IsOne(()).is_so, True)
        self.assertEqual(IsOne(()).setting, ())
        self.assertEqual(Product(lot=(), sign=1).lot, ())
        self.assertEqual(Product([10 ** 70], 1).lot, (10 ** 70,))
        self.assertEqual(IsOne(setting=[1], is_so=False), IsOne((1,), False))

    def test_errors(self):
        for value in [None, True, 0, "0", "", {}, [True], [0, -1], [-1], [None], ["0"], [[0]], [0.0], {0}, [0, False]]:
            self.assert_raises(BadLot("lot"), Product, value, None)
        self.assert_raises(Twice(3), Product, [0, 3, 1, 3, 0], None)
        self.assert_raises(Twice(0), Product, (0, 0), 1)
        for value in [None, True, False, 0, 2, -2, "1", 1.0, [1]]:
            self.assert_raises(BadNumber("sign"), Product, [0], value)
        for value in [None, 1, 0, -1, "yes", "", [], 1.0, Agreeing()]:
            self.assert_raises(BadSaying("is_so"), IsMirrorlike, value)
            self.assert_raises(BadSaying("is_so"), IsOne, [1], value)
        for value in [None, True, 1, "1", [True], [0], [1, 2], [1, None], [[1]], {1}, {1: 1}, [1.0], "", {}]:
            self.assert_raises(BadBody("setting"), IsOne, value, None)

    def test_contraries(self):
        for text, saying in TEXTS:
            other = saying.contrary()
            self.assertIs(type(other), type(saying))
            self.assertNotEqual(other, saying)
            self.assertEqual(other.contrary(), saying)
        self.assertEqual(Product([1, 0], -1).contrary(), Product([0, 1], 1))
        self.assertEqual(IsMirrorlike().contrary(), IsMirrorlike(False))
        self.assertEqual(IsOne([1, -1], False).contrary(), IsOne([1, -1]))

    def test_equality(self):
        for at, (_, saying) in enumerate(TEXTS):
            for other_at, (_, other) in enumerate(TEXTS):
                self.assertIs(saying == other, at == other_at)
            for value in (None, str(saying), True, 1, (), STAR):
                self.assertIs(saying == value, False)
        self.assertEqual(Product((1, 0), 1), Product([0, 1], 1))


class TestTexts(Asking):
    def test_there_and_back(self):
        for text, saying in TEXTS:
            self.assertEqual(str(saying), text)
            self.assertEqual(saying_of(text), saying)
        rng = random.Random(1201)
        for _ in range(200):
            saying = rng.choice((
                Product(rng.sample(range(30), rng.randint(0, 9)), rng.choice((1, -1))),
                IsOne([rng.choice((1, -1)) for _ in range(rng.randint(0, 9))], rng.random() < 0.5),
                IsMirrorlike(rng.random() < 0.5)))
            self.assertEqual(saying_of(str(saying)), saying)

    def test_faults(self):
        for text, item in FAULTS:
            with self.subTest(text=text[:40]):
                self.assert_raises(BadText(0, item), saying_of, text)
        for value in (None, True, 0, ["product", "1"], ("product 1",), b"product 1", {}, IsMirrorlike(), object()):
            self.assert_raises(BadText(0, 0), saying_of, value)

    def test_items_exchanged_left_out_and_put_in(self):
        words = ["product", "mirrorlike", "one", "yes", "no", "1", "-1", "0", "2", "", "x"]
        right = {text for text, _ in all_right_texts(words)}
        for text, _ in TEXTS:
            items = text.split(" ")
            for at in range(len(items) + 1):
                made = [items[:at] + [word] + items[at:] for word in words]
                if at < len(items):
                    made += [items[:at] + [word] + items[at + 1:] for word in words]
                    made.append(items[:at] + items[at + 1:])
                for bent in made:
                    self.read_or_refused(" ".join(bent), bent)
        for text in right:
            self.assertEqual(str(saying_of(text)), text)

    def read_or_refused(self, text, items):
        """What is refused is refused at the first item that no right text goes on with."""
        try:
            self.assertEqual(str(saying_of(text)), text)
        except BadText as error:
            self.assertEqual(error.line, 0)
            ahead = items[:error.item]
            self.assertTrue(can_go_on(ahead), text)
            if error.item < len(items):
                self.assertFalse(can_go_on(items[:error.item + 1]), text)

    def test_long_texts(self):
        signs = " ".join(["1", "-1"] * 10000)
        self.assertEqual(saying_of("one yes " + signs), IsOne([1, -1] * 10000))
        self.assert_raises(BadText(0, 20002), saying_of, "one yes " + signs + " 0")
        marks = " ".join(str(at) for at in range(15000))
        self.assertEqual(saying_of("product 1 " + marks), Product(list(range(15000)), 1))


def is_integer_text(item):
    return item.isascii() and item.isdigit() and len(item) < 61 and str(int(item)) == item


def can_go_on(items):
    """Whether some right text begins with these items."""
    if not items:
        return True
    word, rest = items[0], items[1:]
    if word not in ("product", "mirrorlike", "one"):
        return False
    if rest and rest[0] not in (("1", "-1") if word == "product" else ("yes", "no")):
        return False
    if word == "mirrorlike":
        return len(rest) < 2
    if word == "one":
        return all(item in ("1", "-1") for item in rest[1:])
    if not all(is_integer_text(item) for item in rest[1:]):
        return False
    marks = [int(item) for item in rest[1:]]
    return marks == sorted(set(marks))


def all_right_texts(words):
    """Right texts of up to four of these words."""
    reached = [[]]
    for _ in range(4):
        reached = [items + [word] for items in reached for word in words if can_go_on(items + [word])]
        for items in reached:
            if len(items) > 1:
                yield " ".join(items), items


class TestHoldsIn(Asking):
    def test_against_all_renamings(self):
        rng = random.Random(1203)
        told = []
        for web in webs_with_marks(1204, 40, 5):
            body = any_body(rng, web)
            many = len(web.marks)
            for _ in range(4):
                lot = rng.sample(range(many), rng.randint(0, many))
                product = 1
                for mark in lot:
                    product *= body.setting[mark]
                for sign in (1, -1):
                    self.assertIs(holds_in(Product(lot, sign), body), product == sign)
            is_so = bool(rows_leading(body, body.mirrored()))
            self.assertIs(holds_in(IsMirrorlike(), body), is_so)
            self.assertIs(holds_in(IsMirrorlike(False), body), not is_so)
            for setting in (any_setting(rng, web), mirror(web, body.setting),
                            leads(web, web, rng.choice(all_rows(web, web)), body.setting)):
                is_one = any(leads(web, web, row, body.setting) == setting for row in all_rows(web, web))
                self.assertIs(holds_in(IsOne(setting), body), is_one)
                self.assertIs(holds_in(IsOne(list(setting), False), body), not is_one)
                told.append(is_one)
        self.assertGreater(min(told.count(True), told.count(False)), 30)

    def test_errors(self):
        one = Body(PAIR, [1, 1])
        for value in (None, "product 1", 1, True, one, PAIR, Told(PAIR), object()):
            self.assert_raises(BadSaying("saying"), holds_in, value, None)
        for saying in (Product([9], 1), IsMirrorlike(), IsOne([1])):
            for value in (None, PAIR, "a", saying, 3):
                self.assert_raises(BadBody("body"), holds_in, saying, value)
        self.assert_raises(NoMark(2), holds_in, Product([7, 2, 0], 1), one)
        self.assert_raises(NoMark(10 ** 30), holds_in, Product([10 ** 30], 1), one)
        for setting in ([], [1], [1, 1, 1]):
            self.assert_raises(Misfit("marks"), holds_in, IsOne(setting), one)
        full = Body(FULL, [1] * 8)
        self.assertIs(holds_in(Product([0, 7], 1), full), True)
        self.assert_raises(TooMany("renamings", 400), holds_in, IsMirrorlike(), full)
        self.assert_raises(TooMany("renamings", 400), holds_in, IsOne([1] * 8), full)
        self.assert_raises(Misfit("marks"), holds_in, IsOne([1] * 7), full)
        # The ways to place the core count, not all renamings; and marks as many as there are.
        self.assertIs(holds_in(IsMirrorlike(), Body(BUSH, [1] * 4)), True)
        self.assertIs(holds_in(IsOne([1] * 12), Body(TWELVE, [1] * 12)), True)
        self.assertIs(holds_in(IsOne([]), Body(Web(["a"], []), [])), True)


class TestTold(Asking):
    def test_what_is_kept(self):
        held = [Product([0], 1), IsMirrorlike()]
        told = Told(PAIR, held)
        held.append(IsOne([1, 1]))
        self.assertEqual((told.web, told.sayings), (PAIR, (Product([0], 1), IsMirrorlike())))
        more = told.with_saying(IsOne([1, 1], False))
        self.assertEqual(more.sayings, (Product([0], 1), IsMirrorlike(), IsOne([1, 1], False)))
        self.assertEqual(len(told.sayings), 2)
        self.assertEqual(Told(PAIR).sayings, ())
        self.assertEqual(Told(PAIR, sayings=(IsMirrorlike(),) * 8).sayings, (IsMirrorlike(),) * 8)

    def test_equality(self):
        told = Told(PAIR, [Product([0], 1), IsMirrorlike()])
        self.assertEqual(told, Told(PAIR, (Product((0,), 1), IsMirrorlike(True))))
        self.assertNotEqual(told, Told(PAIR, [IsMirrorlike(), Product([0], 1)]))
        self.assertNotEqual(told, Told(PAIR.with_kind(0, "z"), told.sayings))
        self.assertNotEqual(told, Told(PAIR, told.sayings[:1]))
        for value in (None, PAIR, told.sayings, "a"):
            self.assertIs(told == value, False)

    def test_errors(self):
        for value in (None, "a", 3, Body(PAIR, [1, 1]), Told(PAIR)):
            self.assert_raises(BadWeb("web"), Told, value, None)
        bad = [None, True, "", "product 1", {}, IsMirrorlike(), [None], [IsMirrorlike(), "mirrorlike yes"],
               [Product([9], 1), 3], {IsMirrorlike: 1}]
        for value in bad:
            self.assert_raises(BadSaying("sayings"), Told, PAIR, value)
        self.assert_raises(NoMark(2), Told, PAIR, [IsMirrorlike(), Product([5, 2, 1], 1), IsOne([1])])
        self.assert_raises(Misfit("marks"), Told, PAIR, [IsOne([1]), Product([5], 1)])
        self.assert_raises(Misfit("marks"), Told, PAIR, [IsOne([1, 1]), IsOne([1, 1, 1])])
        self.assert_raises(TooMany("sayings", 8), Told, PAIR, [IsMirrorlike()] * 9)
        self.assert_raises(NoMark(2), Told, PAIR, [IsMirrorlike()] * 9 + [Product([2], 1)])
        for web in (NINE, TWELVE):
            self.assert_raises(TooMany("marks", 8), Told, web)
            self.assert_raises(TooMany("marks", 8), Told, web, [IsMirrorlike()] * 9)
            self.assert_raises(NoMark(12), Told, web, [Product([12], 1)])
        self.assertEqual(len(Told(FULL, [IsMirrorlike()]).sayings), 1)

    def test_errors_of_one_more(self):
        told = Told(PAIR, [IsMirrorlike()] * 8)
        for value in [*ODD_VALUES, "product 1", PAIR, told]:
            self.assert_raises(BadSaying("saying"), told.with_saying, value)
        self.assert_raises(NoMark(2), told.with_saying, Product([2], 1))
        self.assert_raises(Misfit("marks"), told.with_saying, IsOne([]))
        self.assert_raises(TooMany("sayings", 8), told.with_saying, IsMirrorlike())
        self.assertEqual(len(told.sayings), 8)


if __name__ == "__main__":
    unittest.main()
