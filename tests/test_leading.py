import random
import unittest

from otherhand.bodies import Body
from otherhand.errors import BadBody, BadRow, BadWeb
from otherhand.leading import led, signed
from otherhand.renamings import backwards, put_together, renamings
from tests.helping import ODD_VALUES, Asking
from tests.oracle import all_rows, any_body, any_row, any_setting, leads, mirror, some_webs, web_of

STAR = web_of(4, [(0, 1), (0, 2), (0, 3)], [0])
SPLIT = web_of(6, [(0, 1), (0, 2), (0, 3), (1, 4), (1, 5)], [], [(0, 1)])


class TestLeading(Asking):
    def test_both_ends_of_a_stiff_tie(self):
        asked = [((0, 1, 2, 3, 4, 5), 1), ((0, 1, 3, 2, 4, 5), -1), ((0, 1, 2, 3, 5, 4), -1),
                 ((0, 1, 3, 2, 5, 4), 1), ((1, 0, 4, 5, 2, 3), 1), ((1, 0, 5, 4, 2, 3), -1)]
        for row, turn in asked:
            self.assertEqual(signed(SPLIT, SPLIT, row), ((0, turn),))
            self.assertEqual(led(Body(SPLIT, [1]), SPLIT, list(row)).setting, (turn,))

    def test_against_the_words(self):
        rng = random.Random(51)
        for web in some_webs(52, 120, kinds="a"):
            other = web.renumbered(any_row(rng, len(web)))
            rows = all_rows(web, other)
            for row in rng.sample(rows, min(5, len(rows))):
                body = any_body(rng, web)
                there = led(body, other, row)
                self.assertEqual(there.web, other)
                self.assertEqual(there.setting, leads(web, other, row, body.setting))
                pairs = signed(web, other, row)
                self.assertEqual(sorted(image for image, _ in pairs), list(range(len(web.marks))))
                for (image, turn), sign in zip(pairs, body.setting):
                    self.assertEqual(there.setting[image], sign * turn)
                # Mirror images are led alike; back again; and one row behind another.
                self.assertEqual(led(body.mirrored(), other, row), there.mirrored())
                self.assertEqual(led(there, web, backwards(row)), body)
                for step in renamings(other, other)[:3] if len(rows) <= 400 else []:
                    self.assertEqual(led(there, other, step),
                                     led(body, other, put_together(row, step)))

    def test_renumbered_is_led_by_the_row_backwards(self):
        rng = random.Random(53)
        for web in some_webs(54, 60):
            body = any_body(rng, web)
            row = any_row(rng, len(web))
            there = body.renumbered(row)
            self.assertEqual(led(body, there.web, backwards(row)), there)
            self.assertEqual(led(there, web, row), body)

    def test_a_renaming_turns_the_same_marks_in_the_mirror(self):
        rng = random.Random(55)
        for web in some_webs(56, 40, kinds="a"):
            setting = any_setting(rng, web)
            for row in all_rows(web, web)[:5]:
                there = leads(web, web, row, setting)
                self.assertEqual(led(Body(web, mirror(web, setting)), web, row).setting,
                                 mirror(web, there))

    def test_errors(self):
        body = Body(STAR, [1])
        for value in (None, STAR, "a", 3):
            self.assert_raises(BadBody("body"), led, value, None, None)
        for value in (None, body, "a", 3):
            self.assert_raises(BadWeb("web"), led, body, value, None)
            self.assert_raises(BadWeb("web"), signed, value, None, None)
            self.assert_raises(BadWeb("other"), signed, STAR, value, None)
        for row in ([1, 0, 2, 3], [0, 1, 2], (0, True, 2, 3), *ODD_VALUES):
            self.assert_raises(BadRow("row"), led, body, STAR, row)
            self.assert_raises(BadRow("row"), signed, STAR, STAR, row)
        self.assert_raises(BadRow("row"), led, body, STAR.with_kind(0, "b"), (0, 1, 2, 3))
        self.assert_raises(BadRow("row"), led, body, web_of(1, []), (0,))
        self.assert_raises(BadRow("row"), signed, STAR, web_of(4, STAR.ties), (0, 1, 2, 3))


if __name__ == "__main__":
    unittest.main()
