"""Ranks, letters and words: from codes alone, and against a trial of all settings."""

import random
import time
import unittest
from itertools import permutations, product

from otherhand.bodies import Body
from otherhand.check_names import shows_names
from otherhand.codes import code_of, plain_code
from otherhand.errors import BadBody, BadNames, BadWeb, Misfit, NoPiece
from otherhand.leading import led, signed
from otherhand.letters import Names, body_by, letters, names_of, stays
from otherhand.papers import Paper
from otherhand.ranks import plain_ranked, ranked
from otherhand.refusing import Led
from otherhand.sameness import mirrorlike, same
from otherhand.webs import Web
from tests.helping import NO_INTEGERS, ODD_VALUES, Agreeing, Asking, bent_values, same_named
from tests.oracle import (
    all_rows, any_body, any_row, like_arms, like_halves, neighbours, others_of, settings, some_webs,
    sorts_by_trying, web_by_chance, web_of, web_with_all_hubs, wrong_pairs,
)
from tests.test_counting import BUSH, COMB

FORK = web_of(9, [(0, 1), (0, 2), (0, 3), (0, 4), (3, 5), (3, 6), (4, 7), (4, 8)], [0, 3, 4], [],
              list("habhhcdcd"))
RING = web_of(4, [(0, 1), (1, 2), (0, 2), (2, 3)], [2])
SPLIT = web_of(4, [(0, 1), (0, 2), (1, 3)], [], [(0, 1)], list("xxab"))


def some_trees(seed, many, most=10):
    """Trees: any, with like arms, with like halves, with many stiff ties."""
    rng = random.Random(seed)
    webs = some_webs(seed + 1, many, most=most, kinds="aab", loops=0, stiff=0.3, hubs=0.8)
    webs += some_webs(seed + 2, many, most=most, kinds="a", loops=0, stiff=1)
    webs += [bushy_tree(rng, min(16, most + 3)) for _ in range(2 * many)]
    webs += [handed_arms(rng, most) for _ in range(many)]
    while len(webs) < 7 * many:
        shape = like_arms(rng, most) if rng.random() < 0.6 else like_halves(rng, most)
        web = web_by_chance(rng, *shape, rng.choice((0.5, 1)), rng.choice((0, 0.5, 1)))
        if web is not None:
            webs.append(web)
    return webs


def bushy_tree(rng, most):
    """A tree in which ends get two or three others, again and again; its hubs are all that can be."""
    ties = [(0, 1), (0, 2), (0, 3)]
    ends = [1, 2, 3]
    while len(ties) + 3 < most and rng.random() < 0.9:
        end = ends.pop(0) if rng.random() < 0.7 else ends.pop(rng.randrange(len(ends)))
        for _ in range(2):
            ends.append(len(ties) + 1)
            ties.append((end, len(ties) + 1))
    kinds = ["h"] * (len(ties) + 1)
    for at, end in enumerate(ends):
        kinds[end] = "ab"[at % 2] if rng.random() < 0.9 else "c"
    return web_by_chance(rng, kinds, ties, rng.choice((0.7, 1)), 0.4)


def handed_arms(rng, most):
    """A middle piece, or a tie, with two or three like arms, which are hubs with unlike ends."""
    arm = [("h", 0), ("a", 1), ("b", 1)]
    if most > 10 and rng.random() < 0.5:
        arm = [("h", 0), ("a", 1), ("h", 1), ("a", 3), ("b", 3)]
    arms = 2 if len(arm) > 3 else rng.choice((2, 3))
    kinds, ties = ["m"], []
    for _ in range(arms):
        first = len(kinds)
        for kind, ahead in arm:
            ties.append((first + ahead - 1 if ahead else 0, len(kinds)))
            kinds.append(kind)
    if rng.random() < 0.7:
        ties.append((0, len(kinds)))
        kinds.append("c")
    return web_by_chance(rng, kinds, ties, 1, 0.5)


def branches_of(web, piece):
    """The branches of a piece, at an end of a stiff tie without the other end."""
    return [at for at in neighbours(web, piece) if tuple(sorted((at, piece))) not in web.stiff]


def rank(body, piece, branch):
    return (plain_code(body.web, branch, piece), code_of(body, branch, piece))


def in_order(body, piece):
    return sorted(branches_of(body.web, piece), key=lambda at: (rank(body, piece, at), -at), reverse=True)


def has_like(body, piece):
    codes = [code_of(body, at, piece) for at in branches_of(body.web, piece)]
    return any(codes.count(code) > 1 for code in codes)


def told_names(body):
    """The names, told once more from the words of the document."""
    names = []
    for hub in body.web.hubs:
        sign = body.hand(hub) * (-1) ** wrong_pairs(in_order(body, hub))
        names.append("-" if has_like(body, hub) else {1: "L", -1: "R"}[sign])
    for tie in body.web.stiff:
        side = body.side(tie)
        for end, far in (tie, tie[::-1]):
            if len(others_of(body.web, end, far)) == 2 and in_order(body, end)[0] == max(
                    others_of(body.web, end, far)):
                side = -side
        names.append("-" if any(has_like(body, end) for end in tie) else {1: "with", -1: "across"}[side])
    return tuple(names)


class TestRanks(Asking):
    def test_against_codes(self):
        rng = random.Random(601)
        met = [0] * 3
        for web in some_trees(602, 80):
            body = any_body(rng, web)
            for piece in range(len(web)):
                found = branches_of(web, piece)
                plain = [plain_code(web, at, piece) for at in found]
                order = plain_ranked(web, piece)
                if any(plain.count(code) > 1 for code in plain):
                    self.assertIsNone(order)
                else:
                    self.assertEqual(order, tuple(at for _, at in sorted(zip(plain, found), reverse=True)))
                order = ranked(body, piece)
                asked = None if has_like(body, piece) else tuple(in_order(body, piece))
                self.assertEqual(order, asked)
                self.assertTrue(order is None or type(order) is tuple)
                met[0] += order is None
                met[1] += order is not None and plain_ranked(web, piece) is None
                met[2] += order is not None and len(order) > 2
        self.assertGreater(min(met), 20, met)

    def test_one_piece_and_ends(self):
        one = web_of(1, [])
        self.assertEqual((plain_ranked(one, 0), ranked(Body(one, []), 0)), ((), ()))
        self.assertEqual(plain_ranked(SPLIT, 0), (2,))
        self.assertEqual(plain_ranked(SPLIT, 2), (0,))
        two = web_of(6, [(0, 1), (0, 2), (0, 3), (1, 4), (1, 5)], [], [(0, 1)], list("xxabaa"))
        self.assertEqual((plain_ranked(two, 0), plain_ranked(two, 1)), ((3, 2), None))

    def test_errors(self):
        ring = Body(RING, [1])
        for value in (None, ring, "a", 3):
            self.assert_raises(BadWeb("web"), plain_ranked, value, None)
        for value in (None, RING, "a", 3):
            self.assert_raises(BadBody("body"), ranked, value, None)
        for value in (4, -1, 10 ** 30, *NO_INTEGERS):
            self.assert_raises(NoPiece(value), plain_ranked, RING, value)
            self.assert_raises(NoPiece(value), ranked, ring, value)
        for piece in range(4):
            self.assert_raises(BadWeb("tree"), plain_ranked, RING, piece)
            self.assert_raises(BadWeb("tree"), ranked, ring, piece)


class TestNames(Asking):
    def test_against_the_words_of_the_document(self):
        rng = random.Random(603)
        met = {name: 0 for name in ("-", "L", "R", "with", "across")}
        for web in some_trees(604, 40):
            body = any_body(rng, web)
            names = letters(body)
            self.assertEqual(names, told_names(body))
            image = told_names(body.mirrored())
            self.assertEqual(stays(body), tuple(one == other for one, other in zip(names, image)))
            self.assertTrue(all(type(told) is bool for told in stays(body)))
            for name in names:
                met[name] += 1
            paper = names_of(body)
            self.assertIs(type(paper), Names)
            self.assertEqual(paper, names_of(body))
            self.assertEqual(paper.letters, names)
            self.assertIs(shows_names(body, paper), True)
            self.assertEqual(len(paper.ranks), len(names))
        self.assertGreater(min(met.values()), 20, met)

    def test_names_tell_a_body(self):
        for web in some_trees(605, 20, 9):
            if len(web.marks) > 5:
                continue
            held = sorts_by_trying(web)
            by_names = {}
            for setting in settings(web):
                by_names.setdefault(letters(Body(web, setting)), []).append(setting)
            for names, found in by_names.items():
                free = [at for at, name in enumerate(names) if name == "-"]
                self.assertEqual(len(found), 2 ** len(free))
                for setting in found:
                    self.assertIn(setting, held[found[0]])
                    self.assertTrue(all(setting[at] == found[0][at] for at in range(len(names))
                                        if at not in free))
                self.assertEqual(body_by(web, names), Body(web, found[0]))
                self.assertEqual(body_by(web, list(names)).setting, min(found))

    def test_each_row_of_names(self):
        right, wrong = 0, 0
        for web in [FORK, SPLIT, *some_trees(607, 12, 9)]:
            if len(web.marks) > 4:
                continue
            least = {}
            for setting in settings(web):
                least.setdefault(letters(Body(web, setting)), setting)
            words = [("L", "R", "-")] * len(web.hubs) + [("with", "across", "-")] * len(web.stiff)
            for names in product(*words):
                if names in least:
                    self.assertEqual(body_by(web, names), Body(web, least[names]))
                    right += 1
                else:
                    self.assert_raises(Misfit("letters"), body_by, web, names)
                    wrong += 1
        self.assertGreater(min(right, wrong), 100)

    def test_facts(self):
        rng = random.Random(609)
        for web in some_trees(610, 20):
            body = any_body(rng, web)
            names = letters(body)
            rows = all_rows(web, web)
            for row in rng.sample(rows, min(3, len(rows))):
                other = letters(led(body, web, row))
                for mark, (image, _) in enumerate(signed(web, web, row)):
                    self.assertEqual(other[image], names[mark])
            row = any_row(rng, len(web))
            back = {piece: at for at, piece in enumerate(row)}
            anew = body.renumbered(row)
            marks = [back[hub] for hub in web.hubs]
            marks += [tuple(sorted((back[low], back[high]))) for low, high in web.stiff]
            told = dict(zip(anew.web.marks, letters(anew)))
            self.assertEqual(tuple(told[mark] for mark in marks), names)
            if all(stays(body)):
                self.assertEqual(mirrorlike(body).word, "mirrorlike")
            # A letter stays exactly if an odd number of pairs ranks the other way about.
            for mark, hub in enumerate(web.hubs):
                if names[mark] != "-":
                    image = ranked(body.mirrored(), hub)
                    turned = wrong_pairs([ranked(body, hub).index(at) for at in image]) % 2 == 1
                    self.assertIs(stays(body)[mark], turned)
                else:
                    self.assertIs(stays(body)[mark], True)
            self.assertEqual(same(body_by(web, names), body).word, "one")

    def test_sixteen_pieces_take_a_short_time(self):
        rng = random.Random(611)
        line = web_of(16, [(at, at + 1) for at in range(15)], [],
                      [(at, at + 1) for at in range(1, 14, 2)], ["a"] * 15 + ["b"])
        seven = web_with_all_hubs(16, [(0, 1), (0, 2), (0, 3)] + [(at, 2 * at + 2 + k) for at in range(1, 7)
                                                                for k in (0, 1)], None)
        self.assertEqual((len(line.marks), len(seven.marks)), (7, 7))
        begun = time.process_time()
        for web in (COMB, BUSH, line, seven, *some_trees(612, 10, 16)):
            for _ in range(4):
                body = any_body(rng, web)
                names = letters(body)
                self.assertEqual(names, told_names(body))
                self.assertEqual(letters(body_by(web, names)), names)
                self.assertIs(shows_names(body, names_of(body)), True)
        self.assertLess(time.process_time() - begun, 8)

    def test_no_marks(self):
        body = Body(web_of(1, []), [])
        self.assertEqual((letters(body), stays(body), names_of(body).parts), ((), (), ((), ())))
        self.assertEqual(body_by(body.web, []), body)

    def test_errors(self):
        ring = Body(RING, [1])
        for value in (None, RING, "a", 3):
            for call in (letters, stays, names_of):
                self.assert_raises(BadBody("body"), call, value)
            self.assert_raises(BadBody("body"), shows_names, value, None)
        for call in (letters, stays, names_of):
            self.assert_raises(BadWeb("tree"), call, ring)
        self.assert_raises(BadWeb("tree"), shows_names, ring, None)
        for value in (None, ring, "a", 3):
            self.assert_raises(BadWeb("web"), body_by, value, None)
        for value in [*ODD_VALUES, "L", "LLL", ["L", "L"], ["L"] * 4, ["L", "L", "with"], ["L", "L", ""],
                      ["l", "L", "L"], ["L", "L", None], ["L", "L", ["L"]], ["L", "L", 1], {"L": 1},
                      ["across", "L", "R"], ["L", "L", Agreeing()], Agreeing()]:
            self.assert_raises(BadNames("letters"), body_by, FORK, value)
        for value in (["L"], [None], ["-", "-"], "-", [], ["-with"], ["With"]):
            self.assert_raises(BadNames("letters"), body_by, SPLIT, value)
        # Names come ahead of the tree.
        self.assert_raises(BadNames("letters"), body_by, RING, ["with"])
        self.assert_raises(BadWeb("tree"), body_by, RING, ["L"])
        self.assert_raises(Misfit("letters"), body_by, SPLIT, ["-"])
        self.assert_raises(Misfit("letters"), body_by, FORK, ["-", "L", "R"])


class TestChecks(Asking):
    def test_all_rows_of_branches(self):
        rng = random.Random(621)
        webs = [FORK, SPLIT, web_of(6, [(0, 1), (0, 2), (0, 3), (1, 4), (1, 5)], [], [(0, 1)], list("xxabaa"))]
        told = []
        for web in webs + some_trees(622, 8, 8):
            body = any_body(rng, web)
            paper = names_of(body)
            for mark in range(len(web.marks)):
                ends = [web.marks[mark]] if mark < len(web.hubs) else list(web.marks[mark])
                for orders in product(*[permutations(branches_of(web, end)) for end in ends]):
                    right = all(
                        [rank(body, end, at) for at in order]
                        == sorted([rank(body, end, at) for at in order], reverse=True)
                        for end, order in zip(ends, orders)
                    )
                    held = orders[0] if len(ends) == 1 else orders
                    ranks = paper.ranks[:mark] + (held,) + paper.ranks[mark + 1:]
                    self.assertIs(shows_names(body, Names(list(paper.letters), ranks)), right)
                    told.append(right)
        self.assertGreater(min(told.count(True), told.count(False)), 30)

    def test_bent_papers(self):
        for body in (Body(FORK, [1, 1, -1]), Body(FORK, [1, 1, 1]), Body(SPLIT, [1]), Body(BUSH, [1] * 4)):
            names, ranks = names_of(body).parts
            like = [Names(names, ranks)]
            if body.web == BUSH:
                like.append(Names(names, ((3, 1, 2),) + ranks[1:]))
            if body == Body(FORK, [1, 1, 1]):
                like.append(Names(names, ((3, 4, 2, 1),) + ranks[1:]))
            for paper in like:
                self.assertIs(shows_names(body, paper), True)
            for bent in bent_values(names):
                self.assertIs(shows_names(body, Names(bent, ranks)), False)
            for bent in bent_values(ranks):
                self.assertIs(shows_names(body, Names(names, bent)), are_right(body, bent), bent)

    def test_any_value(self):
        body = Body(SPLIT, [1])
        names, ranks = names_of(body).parts
        for value in [*ODD_VALUES, body, names, (names, ranks), Names, Paper("names", names, ranks), Led(names)]:
            self.assertIs(shows_names(body, value), False)
            self.assertIs(shows_names(body, Names(value, ranks)), value == names)
            self.assertIs(shows_names(body, Names(names, value)), False)
        self.assertIs(shows_names(body, Names(["with"], [[[2], [3]]])), True)
        self.assertIs(shows_names(body, Names(["with"], [[[2], [3]], []])), False)
        self.assertIs(shows_names(body, Names(["with"], [[2], [3]])), False)
        self.assertIs(shows_names(body, Names("with", [[[2], [3]]])), False)

        class FakeNames(Names):
            pass

        self.assertIs(shows_names(body, FakeNames(names, ranks)), False)
        for value in same_named(Names(names, ranks)):
            self.assertIs(shows_names(body, value), False)


def is_right_row(body, end, row):
    """Whether a value has each branch, none ahead of one that ranks ahead of it."""
    if not isinstance(row, tuple) or any(type(at) is not int for at in row):
        return False
    found = [rank(body, end, at) for at in row if at in branches_of(body.web, end)]
    return sorted(row) == branches_of(body.web, end) and found == sorted(found, reverse=True)


def are_right(body, ranks):
    """Whether a value tells the ranks of all marks."""
    if not isinstance(ranks, tuple) or len(ranks) != len(body.web.marks):
        return False
    for mark, told in zip(body.web.marks, ranks):
        rows = ((mark, told),)
        if isinstance(mark, tuple):
            if not isinstance(told, tuple) or len(told) != 2:
                return False
            rows = zip(mark, told)
        if not all(is_right_row(body, end, row) for end, row in rows):
            return False
    return True


if __name__ == "__main__":
    unittest.main()
