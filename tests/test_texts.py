"""str and read of webs and bodies."""

import random
import unittest

from otherhand.bodies import Body
from otherhand.errors import BadText
from otherhand.webs import Web
from tests.helping import Asking
from tests.oracle import any_body, some_webs, web_of

SIXTEEN = " ".join(["a"] * 16) + " : " + " / ".join(f"{at} {at + 1}" for at in range(15))

WEB_FAULTS = [
    ("", 0), (" ", 0), (":", 0), (": 0 1", 0), ("A : 0 1", 0), ("a", 1), ("a b", 2), ("a b c", 3),
    ("a*", 1), ("* b : 0 1", 0), ("a** b : 0 1", 0), ("a+ b : 0 1", 0), ("a- b : 0 1", 0),
    ("a b: 0 1", 1), ("a  b : 0 1", 1), (" a b : 0 1", 0), ("a b :  0 1", 3), ("a b : 0 1 ", 5),
    ("a\tb : 0 1", 0), ("a b : 0 1\n", 4), ("abcdefghijklm : ", 0), ("a 1 : 0 1", 1),
    ("a b :", 3), ("a b : 0", 4), ("a b : 0 =", 5), ("a b : 0 1 /", 6), ("a b c : 0 1 / 0", 8),
    ("d : 0", 2), ("d : d", 2), ("d : /", 2), ("d : ", 2), ("d", 1), ("d :", None),
    ("a b : 2 1", 3), ("a b : 0 2", 4), ("a b : 1 0", 4), ("a b : 0 0", 4), ("a b : 1 1", 4),
    ("a b : 00 1", 3), ("a b : 0 01", 4), ("a b : +0 1", 3), ("a b : -0 1", 3), ("a b : 0 -1", 4),
    ("a b : x 1", 3), ("a b : 0 x", 4), ("a b : / 1", 3), ("a b : 0 : 1", 4), ("a b : = 1", 3),
    ("a b : 0 1 0", 5), ("a b : 0 1 1", 5), ("a b : 0 1 :", 5), ("a b : 0 1 =", 5),
    ("a b : 0 " + "1" * 61, 4), ("a b : 0 " + "1" * 60, 4), ("a b : 0 \u0661", 4),
    ("a b : " + "9" * 5000 + " 1", 3),
    ("a b : 0 + 1", 4), ("a b : 0 - 1", 4), ("a b : 0 == 1", 4), ("a b : 0 = = 1", 5),
    # The first piece of a tie, and ties that ascend.
    ("a b c : 0 1 / 1 2", None), ("a b c : 1 2 / 0 1", 7), ("a b c : 0 2 / 0 1", 8),
    ("a b c : 0 1 / 0 1", 8), ("a b c : 0 1 / 0 2 / 1 2", None), ("a b c : 0 2 / 1 2 / 1 2", 11),
    ("a b c : 0 1 / 2 0", 8), ("a b c : 0 1 / 2 2", 8), ("a b c : 0 1 / 2", 8),
    ("a b c : 0 1 0 2", 6), ("a b c : 0 1 / / 0 2", 7), ("a b c : 0 1 / 3 2", 7),
    # A fifth neighbour: as the second piece, and as the first one.
    ("a b c d e f : 0 1 / 0 2 / 0 3 / 0 4 / 0 5", 19),
    ("a b c d e f : 0 4 / 1 4 / 2 4 / 3 4 / 4 5", 19),
    ("a b c d e f : 0 5 / 1 5 / 2 5 / 3 5 / 4 5", 20),
    # A seventeenth kind.
    ("a " + SIXTEEN, 16), (SIXTEEN, None), (" ".join(["a"] * 17), 16), (" ".join(["a"] * 16), 16),
    (" ".join(["a"] * 16) + " 1", 16),
    # What only the whole shows.
    ("a b c : 0 1", 5), ("a b c d : 0 1 / 2 3", 9), ("a* b : 0 1", 4), ("a b* c : 0 1 / 1 2", 8),
    ("a b c : 0 = 1 / 1 2", 9), ("a b c d : 0 1 / 1 = 2 / 2 3", None),
    ("a b c d e : 0 1 / 1 = 2 / 2 = 3 / 3 4", 18), ("a b* c d e : 0 1 / 1 = 2 / 1 3 / 2 4", 17),
    ("c* a b : 0 1 / 0 2", 8), ("c* a b d : 0 1 / 0 2 / 0 3", None),
]

BODY_FAULTS = [
    ("", 0), ("a* b c d : 0 1 / 0 2 / 0 3", 0), ("a b c d : 0 1 / 1 = 2 / 2 3", 9),
    ("a+ b c d : 0 1 / 0 2 / 0 3", None), ("a- b c d : 0 1 / 0 2 / 0 3", None),
    ("a+- b c d : 0 1 / 0 2 / 0 3", 0), ("+ b c d : 0 1 / 0 2 / 0 3", 0),
    ("a b c d : 0 1 / 1 + 2 / 2 3", None), ("a b c d : 0 1 / 1 - 2 / 2 3", None),
    ("a b c d : 0 1 / 1 -2 / 2 3", 9), ("a b c d : 0 1 / 1 + + 2 / 2 3", 10),
    ("a b c d : 0 1 / 1 +", 10), ("a+ b : 0 1", 4), ("a b c : 0 - 1 / 1 2", 9), ("d :", None),
    ("a b :", 3), ("d : 0", 2), ("a b c+ d : 0 1 / 1 2 / 2 3", 12),
]


class TestTexts(Asking):
    def test_faults_of_webs(self):
        for text, item in WEB_FAULTS:
            with self.subTest(text=text):
                if item is None:
                    self.assertEqual(str(Web.read(text)), text)
                else:
                    self.assert_raises(BadText(0, item), Web.read, text)

    def test_faults_of_bodies(self):
        for text, item in BODY_FAULTS:
            with self.subTest(text=text):
                if item is None:
                    self.assertEqual(str(Body.read(text)), text)
                else:
                    self.assert_raises(BadText(0, item), Body.read, text)

    def test_no_string(self):
        for value in (None, True, 0, ["a", ":"], ("a :",), b"a :", {}, Web(["a"], []), object()):
            self.assert_raises(BadText(0, 0), Web.read, value)
            self.assert_raises(BadText(0, 0), Body.read, value)

    def test_there_and_back(self):
        rng = random.Random(9)
        for web in some_webs(5, 150, most=9, kinds=["a", "b9", "abcdefghijkl"]):
            self.assertEqual(Web.read(str(web)), web)
            body = any_body(rng, web)
            self.assertEqual(Body.read(str(body)), body)
            self.assertEqual(str(body).replace("+", "-").replace("-", "*"),
                             str(web).replace("=", "*"))
        self.assertEqual(str(web_of(1, [], kinds=["d"])), "d :")
        self.assertEqual(str(Body(web_of(1, [], kinds=["d"]), [])), "d :")

    def test_items_exchanged_left_out_and_put_in(self):
        rng = random.Random(10)
        for web in some_webs(6, 25, most=6):
            for value, read in ((web, Web.read), (any_body(rng, web), Body.read)):
                items = str(value).split(" ")
                for at in range(len(items)):
                    left_out = items[:at] + items[at + 1:]
                    self.read_or_refused(read, left_out, at)
                    for item in ("", "?", "a*b", "-1", "17", "00", "99"):
                        exchanged = items[:at] + [item] + items[at + 1:]
                        self.assert_refused_at(read, exchanged, at)
                        self.assert_refused_at(read, items[:at] + [item] + items[at:], at)
                    for item in ("a", "a*", "a+", ":", "/", "=", "+", "0", "1", "2", "5"):
                        self.read_or_refused(read, items[:at] + [item] + items[at + 1:], at)
                        self.read_or_refused(read, items[:at] + [item] + items[at:], at)
                for item in ("", "x", "0", "1", ":", "=", "9"):
                    self.assert_refused_at(read, items + [item], len(items))

    def assert_refused_at(self, read, items, at):
        self.assert_raises(BadText(0, at), read, " ".join(items))

    def read_or_refused(self, read, items, at):
        """What stands ahead stood in a right text; what is read is told back."""
        text = " ".join(items)
        try:
            self.assertEqual(str(read(text)), text)
        except BadText as error:
            self.assertEqual(error.line, 0)
            last = len(items) - 1
            self.assertTrue(min(at, last) <= error.item <= len(items), (text, error.item))

    def test_long_texts_take_a_short_time(self):
        self.assert_raises(BadText(0, 16), Web.read, "a " * 50000)
        self.assert_raises(BadText(0, 0), Web.read, "a" * 100000)
        self.assert_raises(BadText(0, 3), Web.read, "a b : " + "1" * 99000)


if __name__ == "__main__":
    unittest.main()
