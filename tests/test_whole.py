"""What two parts of the package tell of one thing agrees."""

import random
import unittest

from otherhand.answers import fitting, fitting_sorts, judged
from otherhand.asking import best_mark
from otherhand.bodies import Body, settings_of
from otherhand.chains import chain_body, chain_least, wreath_body, wreath_least
from otherhand.counting import many_mirrorlike, many_sorts, means
from otherhand.desk import Desk
from otherhand.errors import BadWeb, Misfit
from otherhand.flats import faced, faces, flat_pieces
from otherhand.framed import mirror_framed, many_framed, same_framed
from otherhand.frames import named_frame
from otherhand.helpers import helped
from otherhand.joined import joined, taken_off
from otherhand.ladders import Ladder, steps_between
from otherhand.leading import led
from otherhand.leastforms import least_setting, like_settings, same_sort
from otherhand.letters import body_by, letters
from otherhand.looks import look, parted
from otherhand.mixtures import Mixture, alone, even
from otherhand.pictures import picture_of
from otherhand.places import alike, kins, open_kins
from otherhand.reached import are_joined, joined_sorts, reached
from otherhand.refusing import leading
from otherhand.sameness import mirrorlike, same
from otherhand.sayings import IsMirrorlike, IsOne, Product, Told, holds_in
from otherhand.sorts import counts, mirrorlike_sorts, pairs_of, sorts, sway
from otherhand.turnings import farthest, fewest_turns
from otherhand.twists import fewest_twists, led_by
from otherhand.webs import Web
from otherhand.works import Work
from otherhand.wreaths import Wreath, ways_between
from tests.oracle import any_body, any_row
from tests.test_turnings import webs_with_marks

WORDS = {"one": "one", "mirrorof": "mirror", "neither": "neither"}


def some(seed, many, most_marks=5):
    rng = random.Random(seed)
    return rng, [web for web in webs_with_marks(seed + 1, many, most_marks) if web.marks]


class TestSorts(unittest.TestCase):
    def test_sorts_told_in_many_ways(self):
        rng, webs = some(2001, 40)
        for web in webs:
            found, own = sorts(web), mirrorlike_sorts(web)
            self.assertEqual((many_sorts(web), many_mirrorlike(web)), (len(found), len(own)))
            rows = means(web).rows
            self.assertEqual(sum(left for _, left, _ in rows), len(rows) * len(found))
            self.assertEqual(sum(left for _, _, left in rows), len(rows) * len(own))
            self.assertEqual(2 * len(pairs_of(web)) + len(own), len(found))
            self.assertEqual(sorted(at for sort in found for at in like_settings(Body(web, sort))),
                             list(settings_of(web)))
            told = Told(web)
            self.assertEqual((fitting(told), fitting_sorts(told)), (settings_of(web), found))
            self.assertEqual(fitting_sorts(Told(web, [IsMirrorlike()])), own)
            self.assertEqual([sort for sort, _ in even(web).shares], list(found))
            singles = [[mark] for mark in range(min(8, len(web.marks)))]
            self.assertEqual(reached(Body(web, found[0]), singles), found)
            self.assertIs(are_joined(web, singles), True)
            self.assertEqual(sum(joined_sorts(web, [[]]), ()), found)
            self.assertEqual(sorted(sort for _, lot in parted(web) for sort in lot), list(found))
            if web.is_tree:
                # A renaming leads names to equal ones of other marks: so a sort may have several.
                self.assertEqual(len({letters(Body(web, at)) for at in found}), len(found))

    def test_marks_that_count(self):
        rng, webs = some(2003, 30)
        for web in webs:
            for mark in range(len(web.marks)):
                told = [counts(Body(web, at), mark) for at in settings_of(web)]
                self.assertEqual(sway(web, mark).how, "firm" if all(told) else "borrowed" if any(told) else "idle")
                body = any_body(rng, web)
                turned = body.turned([mark])
                self.assertIs(counts(body, mark), least_setting(body) != least_setting(turned))
                self.assertIs(bool(led_by(body, turned, [[mark]])), True)
                self.assertLessEqual(len(fewest_turns(body, turned).lot), 1)


class TestTwoBodies(unittest.TestCase):
    def test_sameness_told_in_many_ways(self):
        rng, webs = some(2011, 40)
        for web in webs:
            for _ in range(4):
                one, other = any_body(rng, web), any_body(rng, web)
                is_one = same_sort(web, one.setting, other.setting)
                self.assertIs(same(one, other).word == "one", is_one)
                self.assertIs(bool(leading(one, other)), is_one)
                self.assertIs(other.setting in like_settings(one), is_one)
                self.assertIs(holds_in(IsOne(other.setting), one), is_one)
                self.assertIs(fewest_turns(one, other).lot == (), is_one)
                self.assertIs(bool(fewest_twists(one, other, [[]])), is_one)
                self.assertIs(alone(web, one.setting) == alone(web, other.setting), is_one)
                told = Told(web, [IsOne(one.setting)])
                self.assertEqual(judged(told, IsOne(other.setting)).word, "tried" if is_one else "nevertried")
                self.assertEqual(fitting(told), like_settings(one))
                if is_one:
                    self.assertEqual(look(one), look(other))
                if web.is_tree:
                    self.assertLessEqual(letters(one) == letters(other), is_one)
                    self.assertIs(same_sort(web, body_by(web, letters(one)).setting, one.setting), True)
                mixture = Mixture(web, [(one.setting, (1, 1))])
                self.assertIs(mixture.is_balanced, bool(mirrorlike(one)))
                self.assertIs(holds_in(IsMirrorlike(), one), bool(mirrorlike(one)))
                self.assertIs(one.setting in fitting(Told(web, [IsMirrorlike()])), bool(mirrorlike(one)))
                self.assertEqual(picture_of(one).mirrored().body(), one.mirrored())

    def test_turned_and_mixed(self):
        rng, webs = some(2013, 30, 4)
        for web in webs:
            body = any_body(rng, web)
            lot = rng.sample(range(len(web.marks)), rng.randint(1, len(web.marks)))
            work = Work(web, [(("one", body.setting), (1, 1), lot)])
            came = work.after(alone(web, body.setting))
            # One of the settings of the sort is this one: so what comes of it has a share.
            self.assertGreater(came.share(body.turned(lot).setting), (0, 1))
            self.assertIn(least_setting(body.turned(lot)), reached(body, [lot]))
            most, one, other = farthest(web)
            self.assertEqual(len(fewest_turns(Body(web, one), Body(web, other)).lot), most)

    def test_numbered_anew(self):
        rng, webs = some(2015, 25, 4)
        for web in webs:
            body, other = any_body(rng, web), any_body(rng, web)
            row = any_row(rng, len(web))
            again, its = body.renumbered(row), other.renumbered(row)
            images = {piece: at for at, piece in enumerate(row)}
            self.assertEqual(same(body, again).word, "one")
            self.assertEqual(same(again, its).word, same(body, other).word)
            self.assertEqual(led(again, web, row), body)
            self.assertEqual(look(again), look(body))
            for told in (kins, open_kins):
                asked = {frozenset(images[at] for at in kin) for kin in told(body)}
                self.assertEqual(asked, set(map(frozenset, told(again))))
            self.assertEqual(len(fewest_turns(again, its).lot), len(fewest_turns(body, other).lot))
            # Which mark is looked at hangs on the numbers, how many sorts are left then does not.
            self.assertEqual(best_mark(Told(again.web))[1], best_mark(Told(web))[1])


class TestPlaces(unittest.TestCase):
    def test_kins_and_new_kinds(self):
        rng, webs = some(2021, 25, 4)
        for web in webs:
            body = any_body(rng, web)
            for _ in range(3):
                one, other = rng.randrange(len(web)), rng.randrange(len(web))
                word = same(body.with_kind(one, "new9"), body.with_kind(other, "new9")).word
                told = {"alike": "one", "mirroralike": "mirrorof", "unlike": "neither"}[alike(body, one, other).word]
                self.assertEqual(told, word)
                self.assertIs(any({one, other} <= set(kin) for kin in kins(body)), word == "one")
                self.assertIs(any({one, other} <= set(kin) for kin in open_kins(body)), word != "neither")

    def test_faces_and_joined_pieces(self):
        rng, webs = some(2023, 90, 4)
        met = 0
        for web in webs:
            body = any_body(rng, web)
            for piece in flat_pieces(web):
                one, other = faced(body, piece, 1), faced(body, piece, -1)
                self.assertEqual(faces(body, piece), same(one, other))
                self.assertEqual(taken_off(one, len(web)).web.kinds, web.kinds)
                # A hub with a bare seat there, to which the new piece is joined.
                hubs = sorted([*web.hubs, piece])
                setting = list(body.setting)
                setting.insert(hubs.index(piece), 1)
                bare = Body(Web(web.kinds, web.ties, hubs, web.stiff), setting)
                kind = one.web.kinds[-1]
                self.assertEqual(joined(bare, piece, Body(Web([kind], []), []), 0), other)
                met += 1
        self.assertGreater(met, 10)

    def test_helped_and_same(self):
        rng, webs = some(2025, 20, 3)
        for web in webs:
            piece = rng.randrange(len(web))
            dot = Body(Web(["z"], []), [])
            try:
                found = helped(web, piece, dot, 0)
            except BadWeb:
                continue
            for one, other, word in found:
                bodies = [joined(Body(web, at), piece, dot, 0) for at in (one, other)]
                self.assertEqual(WORDS[same(*bodies).word], word)


class TestShapes(unittest.TestCase):
    def test_ladders_are_chains(self):
        for many in (1, 2, 3, 4):
            ladders = {}
            for number in range(2 ** many):
                signs = [1 if number >> at & 1 else -1 for at in range(many)]
                rungs = [("a", "h", "b") if sign == 1 else ("b", "h", "a") for sign in signs]
                ladder = Ladder("e", rungs, "e")
                ladders[tuple(signs)] = ladder
                self.assertEqual(same(ladder.body(), chain_body(signs)).word, "one")
                self.assertEqual(same(ladder.mirrored().body(), chain_body([-sign for sign in signs])).word, "one")
            for one, first in ladders.items():
                for other, second in ladders.items():
                    is_one = chain_least(one) == chain_least(other)
                    self.assertIs(steps_between(first, second) is not None, is_one)

    def test_wreaths_are_wreaths(self):
        for many in (3, 4, 5):
            wreaths = {}
            for number in range(2 ** many):
                signs = tuple(1 if number >> at & 1 else -1 for at in range(many))
                wreaths[signs] = Wreath([("a", "h", "b") if sign == 1 else ("b", "h", "a") for sign in signs])
                self.assertEqual(same(wreaths[signs].body(), wreath_body(signs)).word, "one")
            for one in list(wreaths)[:8]:
                for other in wreaths:
                    is_one = wreath_least(one) == wreath_least(other)
                    self.assertIs(ways_between(wreaths[one], wreaths[other]) != (), is_one)

    def test_four_and_a_hub(self):
        four = named_frame("four")
        rng = random.Random(2031)
        for _ in range(20):
            kinds = [rng.choice("abcd") for _ in range(4)]
            web = Web(["h", *kinds], [(0, 1), (0, 2), (0, 3), (0, 4)], [0])
            self.assertEqual((many_framed(four, kinds), mirror_framed(four, kinds)),
                             (many_sorts(web), many_mirrorlike(web)))
            other = rng.sample(kinds, 4)
            words = {"swung": "one", "mirrorswung": "mirrorof", "unswung": "neither"}
            its = Body(Web(["h", *other], web.ties, [0]), [1])
            self.assertEqual(same(Body(web, [1]), its).word, words[same_framed(four, kinds, other).word])


class TestDesk(unittest.TestCase):
    def test_the_desk_and_the_functions(self):
        rng, webs = some(2041, 25, 4)
        for web in webs:
            one, other = any_body(rng, web), any_body(rng, web)
            desk = Desk()
            desk.told(f"put one {one}", f"put other {other}", "about one")
            asked = [
                ("same one other", WORDS[same(one, other).word]),
                ("fits", str(2 ** len(web.marks))),
                ("sorts one", f"{len(sorts(web))} {len(mirrorlike_sorts(web))}"),
                ("best", " ".join(map(str, best_mark(Told(web))))),
                ("least other", " ".join(map(str, least_setting(other)))),
                ("set", str(web)),
                ("show one", str(one)),
            ]
            self.assertEqual(desk.told(*[line for line, _ in asked]), tuple(answer for _, answer in asked))
            saying = IsOne(other.setting)
            desk.told(f"tell {saying}", f"tell {Product([0], 1)}")
            told = Told(web, [saying, Product([0], 1)])
            self.assertEqual(desk("fits"), str(len(fitting(told))))
            self.assertEqual(desk.shelf.sayings, told.sayings)
            lot = fewest_turns(one, other).lot
            self.assertEqual(desk("fewest one other"), " ".join(map(str, lot)) or "-")
            if lot:
                desk("turn one " + " ".join(map(str, lot)))
            self.assertEqual(desk("same one other"), "one")
            self.assertEqual(desk.shelf.body("one"), one.turned(lot))

    def test_unlike_webs(self):
        desk = Desk()
        desk.told("put a h+ a b c : 0 1 / 0 2 / 0 3", "put b h+ a b d : 0 1 / 0 2 / 0 3")
        self.assertEqual(desk("same a b"), "neither")
        with self.assertRaises(Misfit):
            desk("fewest a b")
        self.assertEqual(desk.told("kind b 3 c", "fewest a b", "mirror b", "fewest a b", "same a b"),
                         ("h+ a b c : 0 1 / 0 2 / 0 3", "-", "h- a b c : 0 1 / 0 2 / 0 3", "0", "mirror"))


if __name__ == "__main__":
    unittest.main()
