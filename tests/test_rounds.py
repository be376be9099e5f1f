import random
import time
import unittest

from otherhand.bodies import Body
from otherhand.errors import BadRow, BadWeb, TooMany
from otherhand.leading import signed
from otherhand.rounds import kept_in_mirror, kept_settings, left_by, left_in_mirror, rounds
from tests.helping import ODD_VALUES, Asking
from tests.oracle import all_rows, leads, mirror, settings, some_webs, web_of, web_with_all_hubs
from tests.test_sorts import DOUBLE, TEN

EVERY = (rounds, left_by, left_in_mirror, kept_settings, kept_in_mirror)
STAR = web_of(4, [(0, 1), (0, 2), (0, 3)], [0])
# Ten hubs of ten kinds in two rings of five.
TWO_RINGS = web_of(10, [(at, (at + 1) % 5) for at in range(5)]
                   + [(5 + at, 5 + (at + 1) % 5) for at in range(5)] + [(at, at + 5) for at in range(5)],
                   list(range(10)), [], list("abcdefghij"))


class TestRounds(Asking):
    def test_against_trying_all_settings(self):
        rng = random.Random(111)
        found = [0, 0, 0]
        # Three hubs in a loop with two like ends each: rounds in which all three are turned.
        thrice = web_with_all_hubs(9, [(0, 1), (1, 2), (0, 2)] + [(at // 2, 3 + at) for at in range(6)])
        for web in [thrice, *some_webs(112, 150, most=8, kinds="a")]:
            rows = all_rows(web, web)
            for row in rows if web == thrice else rng.sample(rows, min(6, len(rows))):
                kept = [one for one in settings(web) if leads(web, web, row, one) == one]
                turned = [one for one in settings(web)
                          if leads(web, web, row, one) == mirror(web, one)]
                self.assertEqual(kept_settings(web, row), tuple(kept))
                self.assertEqual(kept_in_mirror(web, list(row)), tuple(turned))
                self.assertEqual(left_by(web, list(row)), len(kept))
                self.assertEqual(left_in_mirror(web, row), len(turned))
                self.check_rounds(web, row)
                found[0] += not kept
                found[1] += not turned
                found[2] += len(web.stiff) > 0
        self.assertGreater(min(found), 20)

    def check_rounds(self, web, row):
        pairs = signed(web, web, row)
        told = rounds(web, row)
        marks = [mark for held, _, _ in told for mark in held]
        self.assertEqual(sorted(marks), list(range(len(web.marks))))
        self.assertEqual([held[0] for held, _, _ in told], sorted(held[0] for held, _, _ in told))
        for held, odd, odd_in_mirror in told:
            self.assertEqual(held[0], min(held))
            self.assertEqual([pairs[mark][0] for mark in held], list(held[1:] + held[:1]))
            turned = sum(pairs[mark][1] == -1 for mark in held)
            hands = sum(mark < len(web.hubs) for mark in held)
            self.assertIs(odd, turned % 2 == 1)
            self.assertIs(odd_in_mirror, (turned + hands) % 2 == 1)

    def test_no_marks(self):
        web = web_of(2, [(0, 1)])
        for row in ((0, 1), (1, 0)):
            self.assertEqual([call(web, row) for call in EVERY], [(), 1, 1, ((),), ((),)])

    def test_longer_rounds(self):
        ring = web_with_all_hubs(6, [(0, 1), (1, 2), (0, 2), (0, 3), (1, 4), (2, 5)])
        self.assertEqual(rounds(ring, (1, 2, 0, 4, 5, 3)), (((0, 1, 2), False, True),))
        self.assertEqual(left_by(ring, (1, 2, 0, 4, 5, 3)), 2)
        self.assertEqual(left_in_mirror(ring, (1, 2, 0, 4, 5, 3)), 0)

    def test_more_than_ten_marks_are_counted_but_not_listed(self):
        ties = [(at, (at + 1) % 12) for at in range(12)] + [(at, at + 6) for at in range(6)]
        twelve = web_with_all_hubs(12, ties)
        plain = tuple(range(12))
        self.assertEqual(rounds(twelve, plain), tuple(((at,), False, True) for at in range(12)))
        self.assertEqual((left_by(twelve, plain), left_in_mirror(twelve, plain)), (4096, 0))
        back = tuple((at + 6) % 12 for at in range(12))
        self.assertEqual(len(rounds(twelve, back)), 6)
        for call in (kept_settings, kept_in_mirror):
            self.assert_raises(TooMany("marks", 10), call, twelve, plain)
            self.assert_raises(BadRow("row"), call, twelve, plain[1:])
        eleven = web_of(12, ties, list(range(11)))
        self.assertEqual(left_by(eleven, plain), 2048)
        self.assert_raises(TooMany("marks", 10), kept_settings, eleven, plain)
        ten = web_of(12, ties, list(range(10)))
        self.assertEqual(len(kept_settings(ten, plain)), 1024)
        self.assertEqual(kept_in_mirror(ten, plain), ())

    def check_led_one_by_one(self, web, row):
        led = {one: leads(web, web, row, one) for one in settings(web)}
        kept = tuple(one for one in led if led[one] == one)
        turned = tuple(one for one in led if led[one] == mirror(web, one))
        self.assertEqual(kept_settings(web, row), kept)
        self.assertEqual(kept_in_mirror(web, list(row)), turned)
        self.assertEqual((left_by(web, row), left_in_mirror(web, row)), (len(kept), len(turned)))
        return len(kept), len(turned)

    def test_ten_marks_led_one_by_one(self):
        rng = random.Random(113)
        self.assertEqual(self.check_led_one_by_one(TWO_RINGS, tuple(range(10))), (1024, 0))
        like = web_of(10, TWO_RINGS.ties, TWO_RINGS.hubs)
        # Five hubs, one in the middle of four others, and five sides in a ring.
        ring = [(at, (at + 1) % 15) for at in range(15)] + [(at, 15) for at in (0, 3, 6, 9)]
        mixed = web_of(16, ring, [0, 3, 6, 9, 15], [(at, at + 1) for at in (1, 4, 7, 10, 13)])
        found = []
        for web in (like, DOUBLE, TEN, mixed):
            self.assertEqual(len(web.marks), 10)
            rows = all_rows(web, web)
            self.assertGreater(len(rows), 1)
            for row in rng.sample(rows, min(10, len(rows))):
                found.append(self.check_led_one_by_one(web, row))
        self.assertGreater(len([kept for kept, _ in found if kept == 0]), 3)
        self.assertGreater(len([kept for kept, _ in found if 0 < kept < 1024]), 3)
        self.assertGreater(len([turned for _, turned in found if turned]), 3)

    def test_ten_marks_take_a_short_time(self):
        row = tuple(range(10))
        for web in (TWO_RINGS, TEN, DOUBLE):
            for call in (kept_settings, kept_in_mirror):
                begun = time.process_time()
                for _ in range(20):
                    found = call(web, row)
                self.assertLess(time.process_time() - begun, 0.2)
                self.assertEqual(found, tuple(settings(web)) if call is kept_settings else ())
        half = tuple((at + 5) % 10 for at in range(10))
        begun = time.process_time()
        for _ in range(20):
            self.assertEqual(len(kept_settings(TEN, half)), left_by(TEN, half))
            self.assertEqual(len(kept_in_mirror(TEN, half)), left_in_mirror(TEN, half))
        self.assertLess(time.process_time() - begun, 0.2)

    def test_errors(self):
        for call in EVERY:
            for value in (None, Body(STAR, [1]), "a", 3):
                self.assert_raises(BadWeb("web"), call, value, None)
            for row in ([1, 0, 2, 3], [0, 1, 2], [0, True, 2, 3], [0, 1, 2, 3, 4], *ODD_VALUES):
                self.assert_raises(BadRow("row"), call, STAR, row)


if __name__ == "__main__":
    unittest.main()
