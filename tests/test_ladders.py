"""Ladders and wreaths: their bodies, pictures and texts, and what leads from one to another."""

import random
import unittest
from itertools import product

from otherhand.bodies import Body
from otherhand.errors import BadNumber, BadPicture
from otherhand.errors import BadText
from otherhand.ladders import Ladder, steps_between
from otherhand.sameness import same
from otherhand.wreaths import Wreath, ways_between
from tests.helping import NO_INTEGERS, ODD_VALUES, Agreeing, Asking

NO_KINDS = [None, True, 1, "", "A", "a b", "1a", "a" * 13, ["a"], ("a",), b"a", "a-"]
VALID_LADDERS = ["KS" + "KKKS" * many + "K" for many in (1, 2, 3, 4)]
VALID_WREATHS = ["S".join(["KKK"] * many) for many in (3, 4, 5)]


def any_rungs(rng, least, most, kinds="abc", hubs="cd"):
    return [(rng.choice(kinds), rng.choice(hubs), rng.choice(kinds))
            for _ in range(rng.randint(least, most))]


def any_ladder(rng, kinds="abc", hubs="cd"):
    return Ladder(rng.choice(kinds), any_rungs(rng, 1, 4, kinds, hubs), rng.choice(kinds))


def any_wreath(rng, kinds="abc", hubs="cd"):
    return Wreath(any_rungs(rng, 3, 5, kinds, hubs))


def sign_of(item):
    """K for a name, S for a slash, X for any other item."""
    if item == "/":
        return "S"
    good = item and item[0] in "abcdefghijklmnopqrstuvwxyz" and len(item) <= 12
    return "K" if good and all(sign in "abcdefghijklmnopqrstuvwxyz0123456789" for sign in item) else "X"


def first_wrong(text, valid):
    """The item that BadText tells, None for a right text."""
    signs = "".join(sign_of(item) for item in text.split(" "))
    if signs in valid:
        return None
    fits = [at for at in range(len(signs) + 1) if any(told.startswith(signs[:at]) for told in valid)]
    return max(fits)


def bent_texts(rng, text):
    """The text with an item exchanged, left out, put in."""
    items = text.split(" ")
    found = []
    for at in range(len(items) + 1):
        for item in ("/", "a", "", "A", "x1", "1", ":", "a/"):
            found.append(items[:at] + [item] + items[at:])
            if at < len(items):
                found.append(items[:at] + [item] + items[at + 1:])
        found.append(items[:at])
        found.append(items[:at] + items[at + 1:])
        if at + 1 < len(items):
            found.append(items[:at] + [items[at + 1], items[at]] + items[at + 2:])
    found += [items + more for more in (["/"], ["/", "a"], ["a", "b", "c", "/", "d"], ["/", "a", "b", "c"])]
    return [" ".join(told) for told in found] + [text + " ", " " + text, text.replace(" ", "  ", 1)]


class TestTexts(Asking):
    def check_texts(self, made, valid, values):
        rng = random.Random(521)
        wrong = 0
        for value in values:
            self.assertEqual(made.read(str(value)), value)
            self.assertIs(type(made.read(str(value))), made)
            for text in bent_texts(rng, str(value)):
                at = first_wrong(text, valid)
                if at is None:
                    self.assertEqual(str(made.read(text)), text)
                else:
                    self.assert_raises(BadText(0, at), made.read, text)
                    wrong += 1
        self.assertGreater(wrong, 500)
        for value in ODD_VALUES:
            if not isinstance(value, str):
                self.assert_raises(BadText(0, 0), made.read, value)
        self.assert_raises(BadText(0, 0), made.read, "")
        self.assert_raises(BadText(0, 0), made.read, "/")

    def test_ladders(self):
        rng = random.Random(523)
        self.check_texts(Ladder, VALID_LADDERS, [any_ladder(rng) for _ in range(12)])
        self.assert_raises(BadText(0, 1), Ladder.read, "a")
        self.assert_raises(BadText(0, 2), Ladder.read, "a /")
        self.assert_raises(BadText(0, 3), Ladder.read, "a / b")
        self.assert_raises(BadText(0, 6), Ladder.read, "a / b c d /")
        self.assert_raises(BadText(0, 7), Ladder.read, "a / b c d / e /")
        four = "a" + " / b c d" * 4 + " / e"
        self.assertEqual(len(Ladder.read(four).rungs), 4)
        self.assert_raises(BadText(0, 19), Ladder.read, four + " c d / e")
        self.assert_raises(BadText(0, 18), Ladder.read, four[:-2])
        self.assert_raises(BadText(0, 18), Ladder.read, four[:-1] + "E c")
        self.assertEqual(str(Ladder("a", [("b", "c", "d")], "e")), "a / b c d / e")

    def test_wreaths(self):
        rng = random.Random(524)
        self.check_texts(Wreath, VALID_WREATHS, [any_wreath(rng) for _ in range(12)])
        self.assert_raises(BadText(0, 3), Wreath.read, "a b c")
        self.assert_raises(BadText(0, 7), Wreath.read, "a b c / a b c")
        self.assert_raises(BadText(0, 8), Wreath.read, "a b c / a b c /")
        five = " / ".join(["a b c"] * 5)
        self.assertEqual(len(Wreath.read(five).rungs), 5)
        self.assert_raises(BadText(0, 19), Wreath.read, five + " / a b c")
        self.assert_raises(BadText(0, 19), Wreath.read, five + " /")
        self.assertEqual(str(Wreath([("a", "b", "c")] * 3)), "a b c / a b c / a b c")


class TestLadders(Asking):
    def test_bodies_and_pictures(self):
        rng = random.Random(531)
        for _ in range(60):
            ladder = any_ladder(rng)
            many = len(ladder.rungs)
            body = ladder.body()
            kinds = [ladder.top]
            ties = []
            above = 0
            for at, (left, hub, right) in enumerate(ladder.rungs):
                kinds += [hub, left, right]
                ties += [(above, 3 * at + 1), (3 * at + 1, 3 * at + 2), (3 * at + 1, 3 * at + 3)]
                above = 3 * at + 1
            ties.append((above, 3 * many + 1))
            self.assertEqual(body.web.kinds, (*kinds, ladder.bottom))
            self.assertEqual(body.web.ties, tuple(sorted(ties)))
            self.assertEqual((body.web.stiff, body.setting), ((), (1,) * many))
            self.assertEqual(body.web.hubs, tuple(3 * at + 1 for at in range(many)))
            picture = ladder.picture()
            self.assertEqual(picture.body(), body)
            for row, hub in zip(picture.rows, body.web.hubs):
                above = 0 if hub == 1 else hub - 3
                self.assertEqual(row, ((above, hub + 2, hub + 3, hub + 1), hub + 2, None))

    def test_facts(self):
        rng = random.Random(532)
        for _ in range(40):
            ladder = any_ladder(rng, kinds="abcd")
            body = ladder.body()
            for other in (ladder.half_about(), ladder.rolled("top"), ladder.rolled("bottom")):
                self.assertIn(same(other.body(), body).word, ("one",))
            self.assertEqual(ladder.half_about().half_about(), ladder)
            for end in ("top", "bottom"):
                self.assertEqual(ladder.rolled(end).rolled(end).rolled(end), ladder)
            for rung in range(len(ladder.rungs)):
                turned = ladder.exchanged(rung)
                self.assertEqual(turned.exchanged(rung), ladder)
                # Told in one web: left and right of this rung have changed their numbers.
                row = list(range(len(body.web)))
                row[3 * rung + 2], row[3 * rung + 3] = row[3 * rung + 3], row[3 * rung + 2]
                self.assertEqual(turned.body(), body.renumbered(row).turned([rung]))
            self.assertEqual(same(ladder.mirrored().body(), body.mirrored()).word, "one")
            self.assertEqual(ladder.mirrored().mirrored(), ladder)

    def test_by_hand(self):
        ladder = Ladder.read("t / a h b / c k d / e m f / u")
        self.assertEqual(str(ladder.half_about()), "u / f m e / d k c / b h a / t")
        self.assertEqual(str(ladder.rolled("top")), "a / b h t / c k d / e m f / u")
        self.assertEqual(str(ladder.rolled("bottom")), "t / a h b / c k d / f m u / e")
        self.assertEqual(str(ladder.exchanged(1)), "t / a h b / d k c / e m f / u")
        self.assertEqual(str(ladder.mirrored()), "t / b h a / d k c / f m e / u")
        one = Ladder.read("t / a h b / u")
        self.assertEqual(str(one.rolled("top")), "a / b h t / u")
        self.assertEqual(str(one.rolled("bottom")), "t / b h u / a")
        self.assertEqual(str(one.half_about()), "u / b h a / t")

    def test_steps_against_trying_all_rows_of_steps(self):
        rng = random.Random(533)
        found = []
        for _ in range(60):
            ladder = any_ladder(rng, kinds="ab" if rng.random() < 0.5 else "abcd", hubs="c")
            least = {}
            # Any ladder that can be reached is reached within five steps.
            for many in range(6):
                for steps in product(("bottom", "half", "top"), repeat=many):
                    at = ladder
                    for step in steps:
                        at = at.half_about() if step == "half" else at.rolled(step)
                    least.setdefault(str(at), steps)
            others = [Ladder.read(text) for text in least]
            others += [ladder.mirrored(), ladder.exchanged(0), any_ladder(rng, hubs="c")]
            for other in others:
                steps = steps_between(ladder, other)
                self.assertEqual(steps, least.get(str(other)))
                found.append(steps)
                is_one = same(ladder.body(), other.body()).word == "one"
                self.assertIs(steps is not None, is_one)
        self.assertGreater(found.count(None), 40)
        self.assertEqual(max(len(steps or ()) for steps in found), 4)
        self.assertEqual(steps_between(Ladder.read("a / a h a / a"), Ladder.read("a / a h a / a")), ())

    def test_equality(self):
        one = Ladder("a", [["b", "c", "d"]], "e")
        self.assertEqual(one, Ladder("a", (("b", "c", "d"),), "e"))
        self.assertEqual((one.top, one.rungs, one.bottom), ("a", (("b", "c", "d"),), "e"))
        for other in (Ladder("x", one.rungs, "e"), Ladder("a", one.rungs, "x"), one.half_about(),
                      one.exchanged(0), None, str(one), Wreath([("b", "c", "d")] * 3), one.body()):
            self.assertIs(one == other, False)

    def test_errors(self):
        good = [("b", "c", "d")]
        for kind in NO_KINDS:
            self.assert_raises(BadPicture("top"), Ladder, kind, None, None)
            self.assert_raises(BadPicture("bottom"), Ladder, "a", good, kind)
            for at in range(3):
                rung = ["b", "c", "d"]
                rung[at] = kind
                self.assert_raises(BadPicture("rungs"), Ladder, "a", [*good, rung], None)
        for rungs in [*ODD_VALUES, good * 5, good[0], [good], ["abc"], [("a", "b")],
                      [("a", "b", "c", "d")], {"a": 1}]:
            self.assert_raises(BadPicture("rungs"), Ladder, "a", rungs, None)
        ladder = Ladder("a", good * 2, "e")
        for value in (2, -1, 10 ** 30, *NO_INTEGERS):
            self.assert_raises(BadNumber("rung"), ladder.exchanged, value)
        for value in [*ODD_VALUES, "Top", "left", "half", ["top"], ("bottom",), Agreeing()]:
            self.assert_raises(BadPicture("end"), ladder.rolled, value)
        for value in (None, str(ladder), ladder.body(), Wreath(good * 3), 3):
            self.assert_raises(BadPicture("one"), steps_between, value, None)
            self.assert_raises(BadPicture("other"), steps_between, ladder, value)


class TestWreaths(Asking):
    def test_bodies_and_pictures(self):
        rng = random.Random(541)
        for _ in range(60):
            wreath = any_wreath(rng)
            many = len(wreath.rungs)
            body = wreath.body()
            self.assertEqual(body.web.kinds, tuple(kind for upper, hub, lower in wreath.rungs
                                                   for kind in (hub, upper, lower)))
            ties = [(3 * at, 3 * at + end) for at in range(many) for end in (1, 2, 3)][:-1]
            self.assertEqual(body.web.ties, tuple(sorted(ties + [(0, 3 * many - 3)])))
            self.assertEqual(body.web.hubs, tuple(3 * at for at in range(many)))
            self.assertEqual(body.setting, (-1, *[1] * (many - 2), -1))
            picture = wreath.picture()
            self.assertEqual(picture.body(), body)
            for at, row in enumerate(picture.rows):
                hub = 3 * at
                told = [3 * ((at - 1) % many), hub + 1, hub + 2, 3 * ((at + 1) % many)]
                first = told.index(min(told))
                self.assertEqual(row, (tuple(told[first:] + told[:first]), hub + 1, hub + 2))

    def test_facts(self):
        rng = random.Random(542)
        for _ in range(40):
            wreath = any_wreath(rng, kinds="abcd")
            body = wreath.body()
            many = len(wreath.rungs)
            for rung in range(many):
                self.assertEqual(wreath.begun_at(rung).rungs, wreath.rungs[rung:] + wreath.rungs[:rung])
                self.assertEqual(same(wreath.begun_at(rung).body(), body).word, "one")
                turned = wreath.exchanged(rung)
                self.assertEqual(turned.exchanged(rung), wreath)
                row = list(range(3 * many))
                row[3 * rung + 1], row[3 * rung + 2] = row[3 * rung + 2], row[3 * rung + 1]
                self.assertEqual(turned.body(), body.renumbered(row).turned([rung]))
            self.assertEqual(same(wreath.laid_over().body(), body).word, "one")
            self.assertEqual(wreath.laid_over().laid_over(), wreath)
            self.assertEqual(same(wreath.mirrored().body(), body.mirrored()).word, "one")
            other_order = Wreath(wreath.rungs[::-1])
            self.assertEqual(same(other_order.body(), body.mirrored()).word, "one")

    def test_by_hand(self):
        wreath = Wreath.read("a h b / c k d / e m f / g n i")
        self.assertEqual(str(wreath.laid_over()), "b h a / i n g / f m e / d k c")
        self.assertEqual(str(wreath.begun_at(1)), "c k d / e m f / g n i / a h b")
        self.assertEqual(str(wreath.exchanged(3)), "a h b / c k d / e m f / i n g")
        self.assertEqual(str(wreath.mirrored()), "b h a / d k c / f m e / i n g")

    def test_ways(self):
        rng = random.Random(543)
        many_ways = []
        for _ in range(80):
            one = any_wreath(rng, kinds="ab", hubs="c")
            others = [one, one.mirrored(), one.laid_over(), one.exchanged(0), any_wreath(rng, hubs="c")]
            others += [one.begun_at(1).laid_over(), Wreath(one.rungs[::-1])]
            for other in others:
                ways = ways_between(one, other)
                asked = []
                for rung in range(len(one.rungs)):
                    for is_over in (False, True):
                        begun = one.rungs[rung:] + one.rungs[:rung]
                        if is_over:
                            begun = [told[::-1] for told in (begun[0], *begun[:0:-1])]
                        if tuple(begun) == other.rungs:
                            asked.append((rung, is_over))
                self.assertEqual(ways, tuple(asked))
                self.assertTrue(all(type(is_over) is bool for _, is_over in ways))
                self.assertIs(bool(ways), same(one.body(), other.body()).word == "one")
                many_ways.append(len(ways))
        self.assertGreater(many_ways.count(0), 40)
        self.assertGreater(max(many_ways), 5)

    def test_equality(self):
        one = Wreath([["b", "c", "d"]] * 3)
        self.assertEqual(one, Wreath((("b", "c", "d"),) * 3))
        self.assertEqual(one.rungs, (("b", "c", "d"),) * 3)
        for other in (Wreath([("b", "c", "d")] * 4), one.mirrored(), one.exchanged(1), None, str(one)):
            self.assertIs(one == other, False)

    def test_errors(self):
        good = ("b", "c", "d")
        for kind in NO_KINDS:
            for at in range(3):
                rung = ["b", "c", "d"]
                rung[at] = kind
                self.assert_raises(BadPicture("rungs"), Wreath, [good, good, rung])
        for rungs in [*ODD_VALUES, [good], [good] * 2, [good] * 6, good, ["abc"] * 3, [("a", "b")] * 3]:
            self.assert_raises(BadPicture("rungs"), Wreath, rungs)
        wreath = Wreath([good] * 3)
        for value in (3, -1, 10 ** 30, *NO_INTEGERS):
            self.assert_raises(BadNumber("rung"), wreath.exchanged, value)
            self.assert_raises(BadNumber("rung"), wreath.begun_at, value)
        for value in (None, str(wreath), wreath.body(), Ladder("a", [good], "b"), 3, Body):
            self.assert_raises(BadPicture("one"), ways_between, value, None)
            self.assert_raises(BadPicture("other"), ways_between, wreath, value)


if __name__ == "__main__":
    unittest.main()
