import random
import time
import unittest

from otherhand.bodies import Body
from otherhand.branches import behind, core_of, hanging, middle
from otherhand.codes import code_of, entries_of, plain_code, whole_code
from otherhand.errors import BadBody, BadWeb, NoPiece
from otherhand.webs import Web
from tests.helping import NO_INTEGERS, Asking
from tests.oracle import (
    all_rows, any_body, any_row, leads, neighbours, rows_leading, settings, some_webs, web_of,
    web_with_all_hubs,
)

RING = web_of(6, [(0, 1), (1, 2), (0, 2), (2, 3), (3, 4), (3, 5)], [3])
END = ("a", 0, (), 0)


def cut_out(body, piece, ahead):
    """The body of a branch and of its neighbour ahead, an end of a kind of its own.

    None where the tie to the neighbour ahead cannot be stiff any more, and the
    branch has another stiff tie at this place.
    """
    web = body.web
    kept, left = {piece, ahead}, [piece]
    while left:
        for other in neighbours(web, left.pop()):
            if other not in kept:
                kept.add(other)
                left.append(other)
    kept = sorted(kept)
    place = {old: at for at, old in enumerate(kept)}
    ties = [tie for tie in web.ties if set(tie) <= set(kept)]
    ties = [tie for tie in ties if ahead not in tie or piece in tie]
    hubs = [hub for hub in web.hubs if hub in place and hub != ahead]
    stiff = [tie for tie in web.stiff if tie in ties and ahead not in tie]
    signs = [body.hand(hub) for hub in hubs] + [body.side(tie) for tie in stiff]
    made = Web(
        ["zz" if old == ahead else web.kinds[old] for old in kept],
        [(place[a], place[b]) for a, b in ties],
        [place[hub] for hub in hubs],
        [(place[a], place[b]) for a, b in stiff],
    )
    return Body(made, signs)


def numbers_in(code):
    """All signs and sides of a code."""
    kind, hub, entries, sign = code
    found = [sign]
    for inner, stiff, side in entries:
        found += [side] + numbers_in(inner)
    return found


class TestCodes(Asking):
    def test_small_ones(self):
        self.assertEqual(code_of(Body(web_of(1, []), []), 0, None), END)
        two = Body(web_of(2, [(0, 1)], kinds=["a", "b"]), [])
        self.assertEqual(code_of(two, 0, 1), END)
        self.assertEqual(code_of(two, 1, None), ("b", 0, ((END, 0, 0),), 0))
        self.assertEqual(whole_code(two), (("b", 0, (), 0), END, 0, 0))
        self.assertEqual(whole_code(Body(web_of(1, []), [])), END)

    def test_hands_told_by_entries(self):
        web = Web(["c", "a", "b", "d"], [(0, 1), (0, 2), (0, 3)], [0])
        body = Body(web, [1])
        # The order d, b, a has three pairs in the wrong order; behind a: d, b.
        self.assertEqual(code_of(body, 0, None)[3], -1)
        self.assertEqual(code_of(body, 0, 1)[3], -1)
        self.assertEqual(code_of(body, 0, 2)[3], 1)
        self.assertEqual(code_of(body, 0, 3)[3], -1)
        self.assertEqual(plain_code(web, 0, 1), ("c", 1, ((("d", 0, (), 0), 0, 0), (("b", 0, (), 0), 0, 0)), 0))

    def test_sides_told_by_first_ones(self):
        kinds = ["x", "y", "a", "b", "a", "b"]
        ties = [(0, 1), (0, 2), (0, 3), (1, 4), (1, 5)]
        body = Body(Web(kinds, ties, [], [(0, 1)]), [1])
        # The greatest entries are those of b, which is the least neighbour of neither end.
        self.assertEqual(whole_code(body)[2:], (1, 1))
        # Seen from 2: the first one at piece 0 is 2, at piece 1 it is 5.
        self.assertEqual(code_of(body, 0, 2)[2][0][1:], (1, -1))
        self.assertEqual(code_of(body, 0, 3)[2][0][1:], (1, 1))
        # Of the whole seen from 0 the first one is 3.
        self.assertEqual(code_of(body, 0, None)[2][0][1:], (1, 1))
        like = Body(Web(["x", "y", "a", "b", "b", "b"], ties, [], [(0, 1)]), [1])
        self.assertEqual(whole_code(like)[2:], (1, 0))
        self.assertEqual(code_of(like, 0, 2)[2][0][1:], (1, 0))
        self.assertEqual(code_of(like, 1, None)[2][0][1:], (1, 0))
        self.assertEqual(code_of(like, 1, 4)[2][0][1:], (1, -1))

    def test_whole_codes_tell_bodies(self):
        rng = random.Random(31)
        for web in some_webs(32, 70, most=8, loops=0, kinds="aab"):
            other = web.renumbered(any_row(rng, len(web)))
            rows = all_rows(web, other)
            for _ in range(3):
                one, its = any_body(rng, web), any_body(rng, other)
                leads_there = any(
                    leads(web, other, row, one.setting) == its.setting for row in rows
                )
                self.assertEqual(whole_code(one) == whole_code(its), leads_there)

    def test_whole_codes_in_and_beside_the_middle(self):
        shapes = [
            # A stiff tie in the middle, with like ends, with a loose end, beside the middle.
            web_of(6, [(0, 1), (0, 2), (0, 3), (1, 4), (1, 5)], [], [(0, 1)]),
            web_of(4, [(0, 1), (1, 2), (2, 3)], [], [(1, 2)]),
            web_of(7, [(0, 1), (1, 2), (2, 3), (3, 4), (1, 5), (3, 6)], [], [(1, 2)]),
            web_of(8, [(0, 1), (0, 2), (0, 3), (1, 4), (2, 5), (1, 6), (2, 7)], [0], []),
            web_of(8, [(0, 1), (0, 2), (0, 3), (1, 4), (1, 5), (2, 6), (3, 7)], [], [(0, 1)]),
            web_of(8, [(0, 1), (0, 2), (1, 3), (1, 4), (2, 5), (2, 6), (3, 7)], [1, 2], []),
        ]
        for web in shapes:
            for kinds in (list(web.kinds), ["b"] + list(web.kinds)[1:], list(web.kinds)[:-1] + ["b"]):
                web = Web(kinds, web.ties, web.hubs, web.stiff)
                bodies = [Body(web, setting) for setting in settings(web)]
                for one in bodies:
                    for other in bodies:
                        self.assertEqual(whole_code(one) == whole_code(other),
                                         bool(rows_leading(one, other)), (str(one), str(other)))

    def test_branch_codes_tell_branches(self):
        rng = random.Random(33)
        likes = 0
        for web in some_webs(34, 40, most=9, loops=0, kinds="a"):
            body = any_body(rng, web)
            branches = [(piece, ahead) for tie in web.ties for piece, ahead in (tie, tie[::-1])]
            for _ in range(12):
                if not branches:
                    break
                (one, its), (two, their) = rng.choice(branches), rng.choice(branches)
                first, second = cut_out(body, one, its), cut_out(body, two, their)
                like = code_of(body, one, its) == code_of(body, two, their)
                self.assertEqual(like, bool(rows_leading(first, second)))
                plain = plain_code(web, one, its) == plain_code(web, two, their)
                self.assertEqual(plain, bool(all_rows(first.web, second.web)))
                likes += like and one != two
        self.assertGreater(likes, 40)

    def test_whole_seen_from_a_piece(self):
        rng = random.Random(35)
        for web in some_webs(36, 40, most=7, loops=0, kinds="a"):
            body, other = any_body(rng, web), any_body(rng, web)
            rows = rows_leading(body, other)
            for one in range(len(web)):
                for two in range(len(web)):
                    like = code_of(body, one, None) == code_of(other, two, None)
                    self.assertEqual(like, any(row[one] == two for row in rows))

    def test_plain_codes(self):
        for web in some_webs(37, 40, most=9):
            for tie in web.ties:
                for piece, ahead in (tie, tie[::-1]):
                    try:
                        code = plain_code(web, piece, ahead)
                    except BadWeb:
                        continue
                    self.assertEqual(set(numbers_in(code)), {0})
                    self.assertEqual(code[0], web.kinds[piece])
                    self.assertEqual(code[1], int(piece in web.hubs))
                    self.assertEqual(list(code[2]), sorted(code[2], reverse=True))

    def test_entries_at_the_core(self):
        rng = random.Random(38)
        for web in some_webs(39, 80, most=9):
            body = any_body(rng, web)
            for piece in range(len(web)):
                if piece not in core_of(web):
                    self.assert_raises(BadBody("core"), entries_of, body, piece)
                    continue
                asked = [
                    (code_of(body, at, piece), int(tuple(sorted((at, piece))) in web.stiff), 0)
                    for at in hanging(web, piece)
                ]
                self.assertEqual(entries_of(body, piece), tuple(sorted(asked, reverse=True)))

    def test_which_are_branches(self):
        body = Body(RING, [1])
        self.assertEqual(code_of(body, 3, 2)[1:], (1, ((END, 0, 0), (END, 0, 0)), 0))
        self.assertEqual(code_of(body, 4, 3), END)
        for piece, ahead in ((2, 3), (0, 1), (1, 0), (3, 4), (3, 0), (3, 3), (4, 5), (2, 0)):
            self.assert_raises(BadBody("branch"), code_of, body, piece, ahead)
            self.assert_raises(BadWeb("branch"), plain_code, RING, piece, ahead)
        for piece in range(6):
            self.assert_raises(BadBody("branch"), code_of, body, piece, None)
            self.assert_raises(BadWeb("branch"), plain_code, RING, piece, None)
        for web in some_webs(40, 60, most=8):
            for piece in range(len(web)):
                for ahead in neighbours(web, piece):
                    core = core_of(web)
                    fine = web.is_tree or (piece not in core and ahead != piece
                                           and ahead == (set(neighbours(web, piece))
                                                         - set(hanging(web, piece))).pop())
                    if fine:
                        plain_code(web, piece, ahead)
                    else:
                        self.assert_raises(BadWeb("branch"), plain_code, web, piece, ahead)

    def test_errors(self):
        body = Body(RING, [1])
        for value in (None, RING, 3, "a"):
            self.assert_raises(BadBody("body"), code_of, value, None, 99)
            self.assert_raises(BadBody("body"), whole_code, value)
            self.assert_raises(BadBody("body"), entries_of, value, None)
        for value in (None, body, 3, "a"):
            self.assert_raises(BadWeb("web"), plain_code, value, None, 99)
        for value in (6, -1, *NO_INTEGERS):
            self.assert_raises(NoPiece(value), code_of, body, value, 99)
            self.assert_raises(NoPiece(value), plain_code, RING, value, 99)
            self.assert_raises(NoPiece(value), entries_of, body, value)
            if value is not None:
                self.assert_raises(NoPiece(value), code_of, body, 3, value)
                self.assert_raises(NoPiece(value), plain_code, RING, 3, value)
        self.assert_raises(BadBody("tree"), whole_code, body)

    def test_sixteen_pieces_take_a_short_time(self):
        begun = time.process_time()
        path = web_of(16, [(at, at + 1) for at in range(15)], [],
                      [(at, at + 1) for at in range(1, 14, 2)])
        comb = web_with_all_hubs(16, [(at, at + 1) for at in range(7)]
                                 + [(at, at + 8) for at in range(8)])
        bush = web_with_all_hubs(16, [(0, 1), (0, 2), (0, 3)]
                                 + [(1 + at // 3, 4 + at) for at in range(9)] + [(0, 13), (13, 14), (13, 15)])
        for web in (path, comb, bush):
            for setting in settings(web)[:20]:
                body = Body(web, setting)
                whole_code(body)
                for piece in range(16):
                    code_of(body, piece, None)
        self.assertEqual(behind(path, 3, 4), (0, 1, 2, 3))
        self.assertEqual(middle(path), (7, 8))
        self.assertLess(time.process_time() - begun, 10)


if __name__ == "__main__":
    unittest.main()
