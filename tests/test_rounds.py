import random
import unittest

from otherhand.bodies import Body
from otherhand.errors import BadRow, BadWeb, TooMany
from otherhand.leading import signed
from otherhand.rounds import kept_in_mirror, kept_settings, left_by, left_in_mirror, rounds
from tests.helping import ODD_VALUES, Asking
from tests.oracle import all_rows, leads, mirror, settings, some_webs, web_of, web_with_all_hubs

EVERY = (rounds, left_by, left_in_mirror, kept_settings, kept_in_mirror)
STAR = web_of(4, [(0, 1), (0, 2), (0, 3)], [0])


class TestRounds(Asking):
    def test_against_trying_all_settings(self):
        rng = random.Random(111)
        found = [0, 0, 0]
        # Three hubs in a loop with two like ends each: rounds in which all three are turned.
        thrice = web_with_all_hubs(9, [(0, 1), (1, 2), (0, 2)] + [(at // 2, 3 + at) for at in range(6)])
        for web in [thrice, *some_webs(112, 150, most=8, kinds="a")]:
            rows = all_rows(web, web)
            for row in rows if web == thrice else rng.sample(rows, min(6, len(rows))):
                kept = [one for one in settings(web) if leads(web, web, row, one) == one]
                turned = [one for one in settings(web)
                          if leads(web, web, row, one) == mirror(web, one)]
                self.assertEqual(kept_settings(web, row), tuple(kept))
                self.assertEqual(kept_in_mirror(web, list(row)), tuple(turned))
                self.assertEqual(left_by(web, list(row)), len(kept))
                self.assertEqual(left_in_mirror(web, row), len(turned))
                self.check_rounds(web, row)
                found[0] += not kept
                found[1] += not turned
                found[2] += len(web.stiff) > 0
        self.assertGreater(min(found), 20)

    def check_rounds(self, web, row):
        pairs = signed(web, web, row)
        told = rounds(web, row)
        marks = [mark for held, _, _ in told for mark in held]
        self.assertEqual(sorted(marks), list(range(len(web.marks))))
        self.assertEqual([held[0] for held, _, _ in told], sorted(held[0] for held, _, _ in told))
        for held, odd, odd_in_mirror in told:
            self.assertEqual(held[0], min(held))
            self.assertEqual([pairs[mark][0] for mark in held], list(held[1:] + held[:1]))
            turned = sum(pairs[mark][1] == -1 for mark in held)
            hands = sum(mark < len(web.hubs) for mark in held)
            self.assertIs(odd, turned % 2 == 1)
            self.assertIs(odd_in_mirror, (turned + hands) % 2 == 1)

    def test_no_marks(self):
        web = web_of(2, [(0, 1)])
        for row in ((0, 1), (1, 0)):
            self.assertEqual([call(web, row) for call in EVERY], [(), 1, 1, ((),), ((),)])

    def test_longer_rounds(self):
        ring = web_with_all_hubs(6, [(0, 1), (1, 2), (0, 2), (0, 3), (1, 4), (2, 5)])
        self.assertEqual(rounds(ring, (1, 2, 0, 4, 5, 3)), (((0, 1, 2), False, True),))
        self.assertEqual(left_by(ring, (1, 2, 0, 4, 5, 3)), 2)
        self.assertEqual(left_in_mirror(ring, (1, 2, 0, 4, 5, 3)), 0)

    def test_more_than_ten_marks_are_counted_but_not_listed(self):
        ties = [(at, (at + 1) % 12) for at in range(12)] + [(at, at + 6) for at in range(6)]
        twelve = web_with_all_hubs(12, ties)
        plain = tuple(range(12))
        self.assertEqual(rounds(twelve, plain), tuple(((at,), False, True) for at in range(12)))
        self.assertEqual((left_by(twelve, plain), left_in_mirror(twelve, plain)), (4096, 0))
        back = tuple((at + 6) % 12 for at in range(12))
        self.assertEqual(len(rounds(twelve, back)), 6)
        for call in (kept_settings, kept_in_mirror):
            self.assert_raises(TooMany("marks", 10), call, twelve, plain)
            self.assert_raises(BadRow("row"), call, twelve, plain[1:])
        eleven = web_of(12, ties, list(range(11)))
        self.assertEqual(left_by(eleven, plain), 2048)
        self.assert_raises(TooMany("marks", 10), kept_settings, eleven, plain)
        ten = web_of(12, ties, list(range(10)))
        self.assertEqual(len(kept_settings(ten, plain)), 1024)
        self.assertEqual(kept_in_mirror(ten, plain), ())

    def test_errors(self):
        for call in EVERY:
            for value in (None, Body(STAR, [1]), "a", 3):
                self.assert_raises(BadWeb("web"), call, value, None)
            for row in ([1, 0, 2, 3], [0, 1, 2], [0, True, 2, 3], [0, 1, 2, 3, 4], *ODD_VALUES):
                self.assert_raises(BadRow("row"), call, STAR, row)


if __name__ == "__main__":
    unittest.main()
