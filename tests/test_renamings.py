import random
import time
import unittest

from otherhand.bodies import Body
from otherhand.errors import BadNumber, BadRow, BadWeb, Misfit, TooMany
from otherhand.placing import placements
from otherhand.branches import core_of
from otherhand.renamings import (
    all_put_together, backwards, is_renaming, many_within_branches, power, put_together, renamings,
)
from otherhand.sights import plain_sight
from otherhand.spreading import exchanging_rows
from otherhand.webs import Web
from tests.helping import NO_INTEGERS, ODD_VALUES, Asking
from tests.oracle import all_rows, any_row, any_web, some_webs, web_of, web_with_all_hubs

BAD_ROWS = [None, True, 3, "01", "", {}, [], (), [1], [0, 0], [1, 2], [0, True], [False, 1],
            [0, "1"], [0, None], [[0], [1]], [0, -1], [0, 1.0], {0: 0}, {0}, list(range(17))]


def cube(size):
    ties = [(at, at | bit) for bit in (1, 2, 4, 8)[:size] for at in range(2 ** size) if not at & bit]
    return web_with_all_hubs(2 ** size, ties)


class TestRenamings(Asking):
    def test_against_all_rows(self):
        rng = random.Random(41)
        many = 0
        for web in some_webs(42, 250, most=7, kinds="aab", loops=3):
            others = [web, web.renumbered(any_row(rng, len(web))), any_web(rng, most=7, kinds="a")]
            for other in others:
                rows = all_rows(web, other)
                if len(rows) <= 400:
                    self.assertEqual(renamings(web, other), tuple(rows))
                    many += len(rows)
                else:
                    self.assert_raises(TooMany("renamings", 400), renamings, web, other)
        self.assertGreater(many, 500)

    def test_stiff_ties_and_hubs_are_kept(self):
        ties = [(0, 1), (1, 2), (2, 3), (3, 4), (4, 5)]
        self.assertEqual(len(renamings(web_of(6, ties), web_of(6, ties))), 2)
        stiff = web_of(6, ties, [], [(1, 2)])
        self.assertEqual(renamings(stiff, stiff), ((0, 1, 2, 3, 4, 5),))
        self.assertEqual(renamings(stiff, web_of(6, ties)), ())
        self.assertEqual(renamings(web_of(6, ties), stiff), ())
        self.assertEqual(renamings(stiff, web_of(6, ties, [], [(3, 4)])), ((5, 4, 3, 2, 1, 0),))
        star = [(0, 1), (0, 2), (0, 3)]
        self.assertEqual(len(renamings(web_of(4, star), web_of(4, star))), 6)
        self.assertEqual(renamings(web_of(4, star, [0]), web_of(4, star)), ())

    def test_other_numbers_of_pieces(self):
        self.assertEqual(renamings(web_of(1, []), web_of(2, [(0, 1)])), ())
        self.assertEqual(renamings(web_of(3, [(0, 1), (1, 2)]), web_of(2, [(0, 1)])), ())
        self.assertEqual(renamings(web_of(1, []), web_of(1, [])), ((0,),))
        ring = [(0, 1), (1, 2), (0, 2)]
        self.assertEqual(renamings(web_of(3, ring), web_of(4, ring + [(2, 3)])), ())

    def test_up_to_four_hundred(self):
        rng = random.Random(43)
        four = cube(4)
        other = four.renumbered(any_row(rng, 16))
        found = renamings(four, other)
        self.assertEqual(len(found), 384)
        self.assertEqual(list(found), sorted(set(found)))
        self.assertTrue(all(is_renaming(four, other, row) for row in found))
        # 6 * 6 * 6 * 2 renamings, and half of them.
        for kinds, asked in ((["m", "m", "n"], None), (["m", "n", "k"], 216)):
            ties = [(0, 1), (0, 2), (0, 3)] + [(1 + at // 3, 4 + at) for at in range(9)]
            web = web_with_all_hubs(13, ties, ["c"] + kinds + ["h"] * 9)
            other = web.renumbered(any_row(rng, 13))
            if asked is None:
                self.assert_raises(TooMany("renamings", 400), renamings, web, other)
            else:
                self.assertEqual(len(renamings(web, other)), asked)
        # Two webs with many renamings each, and none from one to the other.
        ties = [(0, 1), (0, 2), (0, 3)] + [(1 + at // 3, 4 + at) for at in range(9)]
        bush = web_with_all_hubs(13, ties)
        self.assertEqual(renamings(bush, bush.with_kind(12, "b")), ())
        self.assertEqual(renamings(bush, web_of(13, ties)), ())

    def test_how_many_leave_the_core(self):
        for web in some_webs(49, 120, most=9, kinds="aab", loops=1):
            sight = plain_sight(web)
            rows = all_put_together(exchanging_rows(sight), len(web))
            core = core_of(web)
            asked = [row for row in all_rows(web, web) if all(row[at] == at for at in core)]
            self.assertEqual(sorted(rows), asked)
            self.assertEqual(many_within_branches(sight), len(asked))

    def test_placements_are_cut_off_behind_most(self):
        sight = plain_sight(cube(3))
        self.assertEqual(len(placements(sight, sight, 400)), 48)
        self.assertEqual(len(placements(sight, sight, 48)), 48)
        self.assertEqual(len(placements(sight, sight, 47)), 48)
        self.assertEqual(len(placements(sight, sight, 20)), 21)
        self.assertEqual(len(placements(sight, sight, 0)), 1)

    def test_sixteen_pieces_take_a_short_time(self):
        rng = random.Random(44)
        begun = time.process_time()
        ends = [(0, 1), (0, 2), (0, 3), (0, 4)] + [(1 + at // 3, 5 + at) for at in range(11)]
        double = [(2 * at + k, (2 * at + 2 + j) % 16) for at in range(8) for k in (0, 1) for j in (0, 1)]
        full = [(at, 8 + to) for at in range(8) for to in range(8) if (to - at) % 8 < 4]
        path_and_ends = [(at, at + 1) for at in range(4)] + [(at // 2, 5 + at) for at in range(10)]
        for ties in (ends, double, full, path_and_ends + [(4, 15)]):
            web = web_with_all_hubs(16, ties)
            for _ in range(3):
                other = web.renumbered(any_row(rng, 16))
                try:
                    rows = renamings(web, other)
                    self.assertTrue(all(is_renaming(web, other, row) for row in rows))
                    self.assertGreaterEqual(len(rows), 1)
                except TooMany:
                    pass
        self.assert_raises(TooMany("renamings", 400), renamings, web_of(16, ends), web_of(16, ends))
        self.assert_raises(TooMany("renamings", 400), renamings, web_of(16, double),
                           web_of(16, double).renumbered(any_row(rng, 16)))
        for _ in range(20):
            one, other = any_ring_web(rng), any_ring_web(rng)
            renamings(one, other)
        self.assertLess(time.process_time() - begun, 20)

    def test_is_renaming(self):
        web = Web(["c", "a", "a", "b"], [(0, 1), (0, 2), (0, 3)], [0])
        self.assertIs(is_renaming(web, web, [0, 2, 1, 3]), True)
        self.assertIs(is_renaming(web, web, (0, 1, 2, 3)), True)
        for row in ([0, 1, 3, 2], (1, 0, 2, 3), [0, 1, 2], [0, 1, 2, 3, 4], [0, True, 2, 3],
                    [False, 1, 2, 3], ["0", 1, 2, 3], *ODD_VALUES):
            self.assertIs(is_renaming(web, web, row), False, row)
        self.assertIs(is_renaming(web, web_of(1, []), (0,)), False)
        path = web_of(4, [(0, 1), (1, 2), (2, 3)])
        ring = web_of(4, [(0, 1), (1, 2), (2, 3), (0, 3)])
        self.assertIs(is_renaming(path, ring, (0, 1, 2, 3)), False)
        self.assertIs(is_renaming(ring, path, (0, 1, 2, 3)), False)
        stiff = web_of(4, path.ties, [], [(1, 2)])
        self.assertIs(is_renaming(path, stiff, (0, 1, 2, 3)), False)
        self.assertIs(is_renaming(stiff, path, (0, 1, 2, 3)), False)
        rng = random.Random(45)
        for web in some_webs(46, 60, most=6, kinds="a"):
            other = any_web(rng, most=6, kinds="a")
            for _ in range(20):
                for target in (web, other):
                    row = any_row(rng, len(web))
                    asked = row in all_rows(web, target)
                    self.assertIs(is_renaming(web, target, row), asked)
                    self.assertIs(is_renaming(web, target, list(row)), asked)

    def test_errors(self):
        web = web_of(1, [])
        for value in (None, 3, "a :", Body(web, []), ["a"]):
            for call, more in ((renamings, []), (is_renaming, [None])):
                self.assert_raises(BadWeb("web"), call, value, None, *more)
                self.assert_raises(BadWeb("other"), call, web, value, *more)


def any_ring_web(rng):
    """A web of sixteen pieces with three or four neighbours each."""
    while True:
        ties = {(at, at + 1) for at in range(15)} | {(0, 15)}
        for _ in range(rng.randint(8, 14)):
            one, other = sorted(rng.sample(range(16), 2))
            near = [sum(at in tie for tie in ties) for at in (one, other)]
            if max(near) < 4:
                ties.add((one, other))
        return web_with_all_hubs(16, sorted(ties)).renumbered(any_row(rng, 16))


class TestRows(Asking):
    def test_put_together(self):
        self.assertEqual(put_together([0], (0,)), (0,))
        rng = random.Random(47)
        for _ in range(100):
            many = rng.randint(1, 16)
            one, other, third = (any_row(rng, many) for _ in range(3))
            both = put_together(list(one), other)
            self.assertEqual(both, tuple(other[one[at]] for at in range(many)))
            self.assertEqual(put_together(both, third), put_together(one, put_together(other, third)))
            self.assertEqual(put_together(one, backwards(one)), tuple(range(many)))
            self.assertEqual(put_together(backwards(list(one)), one), tuple(range(many)))

    def test_power(self):
        rng = random.Random(48)
        for _ in range(60):
            many = rng.randint(1, 16)
            row = any_row(rng, many)
            asked = tuple(range(many))
            for number in range(30):
                self.assertEqual(power(row, number), asked)
                self.assertEqual(power(list(row), -number), backwards(asked))
                asked = put_together(asked, row)
            # All rows of 16 pieces come round in 720720 steps.
            self.assertEqual(power(row, 720720 * 10 ** 60), tuple(range(many)))
            self.assertEqual(power(row, 720720 * 10 ** 60 + 1), row)
            self.assertEqual(power(row, -720720 * 10 ** 60 - 1), backwards(row))

    def test_errors(self):
        for row in BAD_ROWS:
            self.assert_raises(BadRow("one"), put_together, row, None)
            self.assert_raises(BadRow("other"), put_together, [0, 1, 2], row)
            self.assert_raises(BadRow("row"), backwards, row)
            self.assert_raises(BadRow("row"), power, row, None)
        self.assert_raises(Misfit("pieces"), put_together, [0, 1], [0])
        self.assert_raises(Misfit("pieces"), put_together, [0], list(range(16)))
        for value in NO_INTEGERS:
            self.assert_raises(BadNumber("number"), power, [0], value)


if __name__ == "__main__":
    unittest.main()
