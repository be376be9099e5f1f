"""Kins, open kins, what is alike, looks: against a trial of all renamings."""

import random
import time
import unittest

from otherhand.bodies import Body
from otherhand.check_places import shows_alike, shows_all_alike
from otherhand.check_sameness import shows_same
from otherhand.errors import BadBody, BadRow, BadWeb, Misfit, NoPiece, TooMany, Twice
from otherhand.looks import look, parted
from otherhand.papers import Denial, Paper
from otherhand.places import (
    Alike, MirrorAlike, Unlike, all_alike, alike, kins, new_kind, open_kins, tie_kins,
)
from otherhand.refusing import Led
from otherhand.sameness import Neither, One, same
from otherhand.sorts import sorts
from otherhand.webs import Web
from tests.helping import NO_INTEGERS, ODD_VALUES, Asking, bent_values, same_named
from tests.oracle import (
    all_rows, any_body, any_row, leads, like_arms, like_halves, mirror, parted_by_rows, rows_leading,
    settings, some_webs, sorts_by_trying, web_by_chance, web_of, web_with_all_hubs,
)
from tests.test_renamings import cube
from tests.test_sorts import DOUBLE, FULL, STAR, TEN, TWELVE
from tests.trees import any_tree, bent_trees, is_right_tree

PAIR = Web(["h", "h", "e", "e", "u", "u"], [(0, 1), (0, 2), (1, 3), (0, 4), (1, 5)], [0, 1], [])
TWIN, CUP = Body(PAIR, [1, 1]), Body(PAIR, [1, -1])
BUSH = web_with_all_hubs(13, [(0, 1), (0, 2), (0, 3)] + [(1 + at // 3, 4 + at) for at in range(9)])
NO_BODIES = (None, PAIR, "a", 3, True, [1])


def tie_led(row, tie):
    return tuple(sorted((row[tie[0]], row[tie[1]])))


def some_bodies(seed, many):
    """Bodies with loops, like arms and halves, sides alone, hubs alone and both."""
    rng = random.Random(seed)
    webs = some_webs(seed + 1, many, most=8, kinds="aab", loops=3)
    webs += some_webs(seed + 2, many, most=8, kinds="a", loops=1, stiff=1)
    while len(webs) < 5 * many:
        shape = like_arms(rng, 10) if rng.random() < 0.6 else like_halves(rng, 10)
        web = web_by_chance(rng, *shape, rng.choice((0.5, 1)), rng.choice((0, 0.5, 1)))
        if web is not None:
            webs.append(web)
    return [any_body(rng, web) for web in webs]


class TestKins(Asking):
    def test_against_all_renamings(self):
        met = [0] * 4
        for body in some_bodies(301, 60):
            own, mirrored = rows_leading(body, body), rows_leading(body, body.mirrored())
            pieces = list(range(len(body.web)))
            asked = parted_by_rows(pieces, own, lambda row, piece: row[piece])
            opened = parted_by_rows(pieces, own + mirrored, lambda row, piece: row[piece])
            self.assertEqual(kins(body), asked)
            self.assertEqual(open_kins(body), opened)
            self.assertEqual(tie_kins(body), parted_by_rows(body.web.ties, own, tie_led))
            shown = {}
            for kin in opened:
                kind = body.web.kinds[kin[0]]
                shown[kind] = shown.get(kind, 0) + 1
            self.assertEqual(look(body), tuple(sorted(shown.items())))
            met[0] += len(asked) < len(pieces)
            met[1] += asked != opened
            met[2] += not mirrored
            met[3] += len(asked) == len(pieces)
        self.assertGreater(min(met), 20, met)

    def test_like_ends_of_a_hub(self):
        asked = {"abcd": 5, "aabc": 5, "aaab": 3, "aabb": 3, "aaaa": 2}
        for kinds, many in asked.items():
            body = Body(web_of(5, [(0, 1), (0, 2), (0, 3), (0, 4)], [0], kinds=["h", *kinds]), [1])
            self.assertEqual(len(kins(body)), many)
            self.assertEqual(len(open_kins(body)), 1 + len(set(kinds)))
        three = Body(web_of(4, [(0, 1), (0, 2), (0, 3)], [0]), [1])
        self.assertEqual(kins(three), ((0,), (1, 2, 3)))
        two = Body(web_of(4, [(0, 1), (0, 2), (0, 3)], [0], kinds=list("haab")), [1])
        self.assertEqual((kins(two), open_kins(two)), (((0,), (1,), (2,), (3,)), ((0,), (1, 2), (3,))))

    def test_like_ends_of_a_stiff_tie(self):
        ties = [(0, 1), (0, 2), (0, 3), (1, 4), (1, 5)]
        for kinds, asked in (("xyaabb", ((0,), (1,), (2, 3), (4, 5))),
                             ("xyaabc", ((0,), (1,), (2,), (3,), (4,), (5,))),
                             ("xxabab", ((0, 1), (2, 4), (3, 5)))):
            body = Body(web_of(6, ties, [], [(0, 1)], list(kinds)), [1])
            self.assertEqual(kins(body), asked)
            self.assertEqual(open_kins(body), asked)

    def test_no_marks_and_one_piece(self):
        one = Body(web_of(1, []), [])
        self.assertEqual((kins(one), open_kins(one), tie_kins(one)), (((0,),), ((0,),), ()))
        self.assertEqual(look(one), (("a", 1),))
        two = Body(web_of(2, [(0, 1)]), [])
        self.assertEqual((kins(two), tie_kins(two)), (((0, 1),), (((0, 1),),)))

    def test_facts(self):
        rng = random.Random(303)
        for body in some_bodies(304, 16):
            found, opened = kins(body), open_kins(body)
            row = any_row(rng, len(body.web))
            other = body.renumbered(row)
            back = {piece: at for at, piece in enumerate(row)}
            moved = sorted(tuple(sorted(back[piece] for piece in kin)) for kin in found)
            self.assertEqual(list(kins(other)), moved)
            self.assertEqual(look(other), look(body))
            self.assertEqual(look(body.mirrored()), look(body))
            self.assertEqual(kins(body.mirrored()), found)
            if same(body, body.mirrored()).word != "one":
                self.assertEqual(opened, found)
            for kin in opened:
                sizes = [len(part) for part in found if part[0] in kin]
                self.assertIn(sizes, ([len(kin)], [len(kin) // 2] * 2))
                for piece in kin:
                    self.assertEqual(body.web.kinds[piece], body.web.kinds[kin[0]])
                    self.assertEqual(len(body.web.near[piece]), len(body.web.near[kin[0]]))
            kinds = list(body.web.kinds)
            for kin, told in ((found[-1], kins), (opened[0], open_kins)):
                changed = body
                for piece in kin:
                    changed = changed.with_kind(piece, new_kind(body.web))
                self.assertEqual(told(changed), told(body))
            self.assertEqual(list(body.web.kinds), kinds)

    def test_many_renamings_and_few_ways_to_place_the_core(self):
        body = Body(BUSH, [1, 1, -1, 1])
        self.assertEqual(kins(body), ((0,), (1, 2, 3), tuple(range(4, 13))))
        self.assertEqual(open_kins(body), kins(body))
        self.assertEqual(len(tie_kins(body)), 2)
        self.assertEqual(alike(body, 4, 12).word, "alike")
        self.assertEqual(alike(body, 0, 12).word, "unlike")
        self.assertEqual(all_alike(body, [4, 5, 6], [10, 11, 12]).word, "alike")
        self.assertEqual(all_alike(body, [4, 5, 6], [10, 11, 9]).word, "unlike")

    def test_too_many(self):
        body = Body(FULL, [1] * 8)
        for call in (kins, open_kins, tie_kins, look):
            self.assert_raises(TooMany("renamings", 400), call, body)
        # New kinds would leave few ways; the body and itself are asked.
        self.assert_raises(TooMany("renamings", 400), alike, body, 0, 1)
        self.assert_raises(TooMany("renamings", 400), alike, body, 0, 0)
        self.assert_raises(TooMany("renamings", 400), all_alike, body, list(range(8)), list(range(8)))
        self.assert_raises(TooMany("renamings", 400), all_alike, body, [], [])
        self.assertEqual(new_kind(FULL), "new0")
        plain = tuple(range(8))
        self.assertIs(shows_alike(body, 0, 0, Alike(plain)), True)
        self.assertIs(shows_alike(body, 0, 1, Alike(plain)), False)
        self.assertIs(shows_all_alike(body, plain, plain, Alike(plain)), True)
        self.assertIs(shows_all_alike(body, [0], [1], Unlike(0, 0)), False)

    def test_short_times(self):
        begun = time.process_time()
        rng = random.Random(305)
        for web in (TEN, DOUBLE, cube(4), cube(3), TWELVE):
            for setting in ([1] * len(web.marks), [rng.choice((1, -1)) for _ in web.marks]):
                body = Body(web, setting)
                found = open_kins(body)
                self.assertLessEqual(len(found), len(kins(body)))
                self.assertEqual(sum(many for _, many in look(body)), len(found))
                tie_kins(body)
                for piece in (1, 5):
                    paper = alike(body, 0, piece)
                    self.assertIs(shows_alike(body, 0, piece, paper), True)
                    self.assertEqual(bool(paper), any(0 in kin and piece in kin for kin in found))
        self.assertLess(time.process_time() - begun, 8)


class TestAlike(Asking):
    def test_against_all_renamings(self):
        rng = random.Random(311)
        told = []
        for body in some_bodies(312, 30):
            own, mirrored = rows_leading(body, body), rows_leading(body, body.mirrored())
            for _ in range(6):
                one, other = rng.randrange(len(body.web)), rng.randrange(len(body.web))
                if mirrored and rng.random() < 0.6:
                    other = rng.choice(mirrored)[one]
                ones = [row for row in own if row[one] == other]
                mirrors = [row for row in mirrored if row[one] == other]
                paper = alike(body, one, other)
                told.append(paper.word)
                self.check_paper(paper, ones, mirrors)
                self.assertEqual(paper, alike(body, one, other))
                self.assertIs(shows_alike(body, one, other, paper), True)
                # Of pieces of unlike kinds the trees of lists are of other new kinds.
                if body.web.kinds[one] == body.web.kinds[other]:
                    self.assertIs(shows_all_alike(body, [one], (other,), paper), True)
                for row in rng.sample(own, min(3, len(own))) + rng.sample(mirrored, min(3, len(mirrored))):
                    self.assertIs(shows_alike(body, one, other, Alike(list(row))), row in ones)
                    self.assertIs(shows_alike(body, one, other, MirrorAlike(row)), row in mirrors)
        self.assertGreater(min(told.count(word) for word in ("alike", "mirroralike", "unlike")), 40)

    def check_paper(self, paper, ones, mirrors):
        if ones:
            self.assertIs(type(paper), Alike)
            self.assertIn(paper.row, ones)
        elif mirrors:
            self.assertIs(type(paper), MirrorAlike)
            self.assertIn(paper.row, mirrors)
        else:
            self.assertIs(type(paper), Unlike)

    def test_rows_of_several_pieces(self):
        rng = random.Random(313)
        told = []
        for body in some_bodies(314, 30):
            many = len(body.web)
            own, mirrored = rows_leading(body, body), rows_leading(body, body.mirrored())
            for _ in range(4):
                ones = rng.sample(range(many), rng.randint(0, many))
                others = rng.sample(range(many), len(ones))
                if rng.random() < 0.7:
                    row = rng.choice(own + mirrored + all_rows(body.web, body.web)[:3])
                    others = [row[piece] for piece in ones]
                right = [row for row in own if [row[piece] for piece in ones] == others]
                mirrors = [row for row in mirrored if [row[piece] for piece in ones] == others]
                paper = all_alike(body, ones, tuple(others))
                told.append(paper.word)
                self.check_paper(paper, right, mirrors)
                self.assertEqual(paper, all_alike(body, tuple(ones), others))
                self.assertIs(shows_all_alike(body, ones, others, paper), True)
        self.assertGreater(min(told.count(word) for word in ("alike", "mirroralike", "unlike")), 40)

    def test_pieces_of_unlike_kinds(self):
        # Two ends of unlike kinds exchanged: new kinds alone would hide the old ones.
        body = Body(web_of(3, [(0, 1), (0, 2)], kinds=["m", "a", "b"]), [])
        self.assertEqual(all_alike(body, [1, 2], [2, 1]).word, "unlike")
        self.assertEqual(all_alike(body, [1, 2], [1, 2]).word, "alike")
        self.assertEqual(alike(body, 1, 2).word, "unlike")
        self.assertIs(shows_all_alike(body, [1, 2], [2, 1], Alike((0, 2, 1))), False)
        self.assertIs(shows_alike(body, 1, 2, Alike((0, 2, 1))), False)
        whole = Body(web_of(2, [(0, 1)], kinds=["a", "b"]), [])
        self.assertEqual(all_alike(whole, [0, 1], [1, 0]).word, "unlike")
        self.assertEqual(alike(whole, 0, 1).word, "unlike")
        three = Body(web_of(4, [(0, 1), (0, 2), (0, 3)], kinds=list("mabc")), [])
        self.assertEqual(all_alike(three, [1, 2, 3], [2, 3, 1]).word, "unlike")

    def test_new_kinds(self):
        self.assertEqual(new_kind(PAIR), "new0")
        kinds = ["new0", "new2", "new1", "a", "new10"]
        ties = [(0, 1), (1, 2), (2, 3), (3, 4)]
        for at, asked in ((0, "new0"), (1, "new1"), (2, "new3"), (3, "new3"), (4, "new3")):
            web = web_of(5, ties, kinds=kinds[:1] * 5 if at == 1 else (["a"] * 5 if at == 0 else kinds))
            self.assertEqual(new_kind(web), asked)
        self.assertEqual(new_kind(web_of(16, [(at, at + 1) for at in range(15)],
                                         kinds=[f"new{at}" for at in range(16)])), "new16")
        # Kinds with such names stand in the web already.
        for names in (["new0", "new1"], ["new1", "new0"], ["new0", "new2"]):
            first, second = names
            web = web_of(5, [(0, 1), (0, 2), (0, 3), (0, 4)], [0], [], ["h", first, first, second, second])
            body = Body(web, [1])
            self.assertEqual(kins(body), ((0,), (1, 2), (3, 4)))
            self.assertEqual(alike(body, 1, 2).row, (0, 2, 1, 4, 3))
            self.assertEqual(alike(body, 1, 3).word, "unlike")
            self.assertEqual(all_alike(body, [1, 3], [2, 4]).word, "alike")
            self.assertEqual(all_alike(body, [1, 3], [2, 3]).word, "mirroralike")
            self.assertEqual(all_alike(body, [1, 3], [3, 1]).word, "unlike")

    def test_the_fact_of_new_kinds(self):
        rng = random.Random(315)
        for body in some_bodies(316, 20):
            one, other = rng.randrange(len(body.web)), rng.randrange(len(body.web))
            kind = new_kind(body.web)
            first, second = body.with_kind(one, kind), body.with_kind(other, kind)
            paper = alike(body, one, other)
            word = {"one": "alike", "mirrorof": "mirroralike", "neither": "unlike"}[same(first, second).word]
            self.assertEqual(paper.word, word)
            if word == "unlike":
                self.assertIs(shows_same(first, second, Neither(paper.tree, paper.mirrored)), True)

    def test_errors(self):
        for value in NO_BODIES:
            for call in (kins, open_kins, tie_kins, look):
                self.assert_raises(BadBody("body"), call, value)
            for call, more in ((alike, []), (shows_alike, [None])):
                self.assert_raises(BadBody("body"), call, value, None, None, *more)
            for call, more in ((all_alike, []), (shows_all_alike, [None])):
                self.assert_raises(BadBody("body"), call, value, None, None, *more)
        for value in (None, TWIN, "a", 3, True):
            self.assert_raises(BadWeb("web"), new_kind, value)
            self.assert_raises(BadWeb("web"), parted, value)
        for call, more in ((alike, []), (shows_alike, [None])):
            for value in (6, -1, 10 ** 30, *NO_INTEGERS):
                self.assert_raises(NoPiece(value), call, TWIN, value, 99, *more)
                self.assert_raises(NoPiece(value), call, TWIN, 0, value, *more)
        for call, more in ((all_alike, []), (shows_all_alike, [None])):
            for value in (None, 0, "01", {}, [None], [True], [0, "1"], [[0]], {0}, [0, 1.0]):
                self.assert_raises(BadRow("ones"), call, TWIN, value, None, *more)
                self.assert_raises(BadRow("others"), call, TWIN, [0, 1], value, *more)
            self.assert_raises(NoPiece(6), call, TWIN, [0, 6, 6, -1], None, *more)
            self.assert_raises(NoPiece(-1), call, TWIN, [2, 2, -1, 6], None, *more)
            self.assert_raises(Twice(2), call, TWIN, [0, 2, 1, 2, 1], None, *more)
            self.assert_raises(NoPiece(9), call, TWIN, [0, 2], [9], *more)
            self.assert_raises(Twice(3), call, TWIN, [0, 2], (3, 3, 0), *more)
            self.assert_raises(Misfit("pieces"), call, TWIN, [0, 2], [0], *more)
            self.assert_raises(Misfit("pieces"), call, TWIN, [], [0], *more)
            self.assert_raises(Misfit("pieces"), call, Body(FULL, [1] * 8), [0], [], *more)
        self.assertEqual(all_alike(CUP, [], []).word, "alike")


class TestLooks(Asking):
    def test_parted(self):
        met = [0] * 3
        webs = [body.web for body in some_bodies(321, 12)]
        # Rows of hubs with ends: the two ways about exchange some sorts.
        rng = random.Random(322)
        for many in (2, 3, 4) * 8:
            ties = [(at, at + 1) for at in range(many - 1)] + [(0, many), (many - 1, many + 1)]
            ties += [(at, many + 2 + at) for at in range(many)]
            ends = [rng.choice("uv") for _ in range(many)]
            webs.append(web_with_all_hubs(2 * many + 2, ties, ["h"] * many + ["e", "e"] + ends))
        for web in webs:
            if len(web.marks) > 4:
                continue
            rows = all_rows(web, web)
            asked = {}
            for sort in sorted({found[0] for found in sorts_by_trying(web).values()}):
                led = [row for row in rows if leads(web, web, row, sort) in (sort, mirror(web, sort))]
                pieces = parted_by_rows(range(len(web)), led, lambda row, piece: row[piece])
                kinds = [web.kinds[kin[0]] for kin in pieces]
                shown = tuple((kind, kinds.count(kind)) for kind in sorted(set(kinds)))
                asked.setdefault(shown, []).append(sort)
            found = parted(web)
            self.assertEqual(found, tuple((shown, tuple(asked[shown])) for shown in sorted(asked)))
            met[0] += len(found) > 1
            met[1] += any(len(held) > 1 for _, held in found)
            met[2] += len(web.marks) > 2
        self.assertGreater(min(met), 8, met)

    def test_bounds(self):
        ties = [(at, (at + 1) % 8) for at in range(8)] + [(at, at + 4) for at in range(4)]
        seven = web_of(8, ties, range_of(7), [], list("aaaaaaab"))
        self.assert_raises(TooMany("marks", 6), parted, seven)
        # Marks come ahead of renamings.
        self.assert_raises(TooMany("marks", 6), parted, FULL)
        self.assert_raises(TooMany("renamings", 400), parted, web_of(8, FULL.ties))
        six = web_of(8, ties, range_of(6))
        begun = time.process_time()
        found = parted(six)
        self.assertEqual(sorted(sort for _, held in found for sort in held), list(sorts(six)))
        self.assertEqual(parted(web_of(1, [])), (((("a", 1),), ((),)),))
        self.assertEqual(len(parted(web_with_all_hubs(6, [(0, 1), (1, 2), (0, 2), (3, 4), (4, 5), (3, 5),
                                                          (0, 3), (1, 4), (2, 5)]))) > 1, True)
        self.assertLess(time.process_time() - begun, 5)

    def test_two_bodies_of_one_look(self):
        # The two sorts that are mirrorlike look alike; they are neither.
        three = Web(list("hhheeuvv"), [(0, 1), (1, 2), (0, 3), (2, 4), (1, 5), (0, 6), (2, 7)], [0, 1, 2])
        one, other = parted(three)[0][1]
        self.assertEqual(look(Body(three, one)), look(Body(three, other)))
        self.assertEqual(same(Body(three, one), Body(three, other)).word, "neither")


class TestChecks(Asking):
    def test_rows(self):
        for body in (TWIN, CUP, Body(STAR, [1]), Body(web_of(3, [(0, 1), (0, 2)]), [])):
            own, mirrored = rows_leading(body, body), rows_leading(body, body.mirrored())
            for one in range(len(body.web)):
                for other in range(len(body.web)):
                    for row in all_rows(body.web, body.web):
                        for bent in [row, list(row), *bent_values(row)]:
                            fixed = tuple(bent) if isinstance(bent, (list, tuple)) else bent
                            is_row = repr(fixed) in [repr(told) for told in own]
                            asked = is_row and fixed[one] == other
                            self.assertIs(shows_alike(body, one, other, Alike(bent)), asked)
                            self.assertIs(shows_all_alike(body, [one], [other], Alike(bent)), asked)
                            is_row = repr(fixed) in [repr(told) for told in mirrored]
                            asked = is_row and fixed[one] == other
                            self.assertIs(shows_alike(body, one, other, MirrorAlike(bent)), asked)

    def test_trees(self):
        rng = random.Random(331)
        told = []
        for body in some_bodies(332, 12):
            for _ in range(3):
                one, other = rng.randrange(len(body.web)), rng.randrange(len(body.web))
                kind = new_kind(body.web)
                first, second = body.with_kind(one, kind), body.with_kind(other, kind)
                trees = [any_tree(rng, first, second), any_tree(rng, first, second.mirrored())]
                if None in trees:
                    paper = Unlike(*[tree or trees[1 - at] for at, tree in enumerate(trees)])
                    self.assertIs(shows_alike(body, one, other, paper), False)
                    continue
                self.assertIs(shows_alike(body, one, other, Unlike(*trees)), True)
                for bent in rng.sample(bent_trees(rng, trees[0], 9), 4):
                    asked = is_right_tree(first, second, bent)
                    self.assertIs(shows_alike(body, one, other, Unlike(bent, trees[1])), asked)
                    told.append(asked)
                for bent in rng.sample(bent_trees(rng, trees[1], 9), 4):
                    asked = is_right_tree(first, second.mirrored(), bent)
                    self.assertIs(shows_alike(body, one, other, Unlike(trees[0], bent)), asked)
                    told.append(asked)
        self.assertGreater(told.count(False), 100)

    def test_any_value(self):
        row, tree = (0, 1, 2, 3, 4, 5), (0, ("marks", "branches"))
        papers = [Led(row), One(row), Paper("alike", row), Paper("mirroralike", row),
                  Denial("unlike", tree, tree), Neither(tree, tree)]
        for value in [*ODD_VALUES, *papers, TWIN, row, Alike, Unlike]:
            for body in (TWIN, CUP):
                self.assertIs(shows_alike(body, 2, 2, value), False)
                self.assertIs(shows_all_alike(body, [2], [2], value), False)
                self.assertIs(shows_alike(body, 2, 2, Alike(value)), value == row)
                self.assertIs(shows_alike(body, 2, 2, MirrorAlike(value)), False)
                self.assertIs(shows_alike(body, 2, 4, Unlike(value, value)), False)
                self.assertIs(shows_all_alike(body, [2], [4], Unlike(value, value)), False)

    def test_made_by_calling_this_class(self):
        class FakeAlike(Alike):
            pass

        class FakeMirrorAlike(MirrorAlike):
            pass

        class FakeUnlike(Unlike):
            pass

        paper = alike(TWIN, 2, 4)
        for made, fake in ((Alike, FakeAlike), (MirrorAlike, FakeMirrorAlike)):
            body = TWIN if made is Alike else CUP
            self.assertIs(shows_alike(body, 2, 3, made((1, 0, 3, 2, 5, 4))), True)
            self.assertIs(shows_alike(body, 2, 3, fake((1, 0, 3, 2, 5, 4))), False)
            for value in same_named(made((1, 0, 3, 2, 5, 4))):
                self.assertIs(shows_alike(body, 2, 3, value), False)
        for value in same_named(paper):
            self.assertIs(shows_alike(TWIN, 2, 4, value), False)
        self.assertIs(shows_alike(TWIN, 2, 4, Unlike(*paper.parts)), True)
        self.assertIs(shows_alike(TWIN, 2, 4, FakeUnlike(*paper.parts)), False)


def range_of(many):
    return list(range(many))


if __name__ == "__main__":
    unittest.main()
