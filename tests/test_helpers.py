"""Helpers, against joining both by hand; and the checks of papers about works."""

import random
import time
import unittest

from otherhand.bodies import Body
from otherhand.check_mixtures import shows_balance, shows_handless
from otherhand.errors import BadBody, BadWeb, BadWork, NoPiece, TooMany
from otherhand.helpers import helped
from otherhand.joined import joined
from otherhand.papers import Denial, Paper
from otherhand.sameness import mirrorlike, same
from otherhand.sorts import pairs_of
from otherhand.webs import Web
from otherhand.works import HandedAt, Handless, KeepsBalance, Upsets, Work, handless, keeps_balance
from tests.helping import NO_INTEGERS, ODD_VALUES, Asking, bent_values, same_named
from tests.oracle import (
    all_rows, any_body, any_web, mirror, rows_leading, settings, some_webs, sorts_by_trying, web_of,
)
from tests.test_mixtures import EIGHT, any_work, listings
from tests.test_renamings import cube
from tests.test_sorts import STAR, TWELVE
from tests.test_turnings import PAIR, webs_with_marks

HUB = Web(["c", "a", "b", "d"], [(0, 1), (0, 2), (0, 3)], [0])
DOT = Body(Web(["e"], []), [])
WORDS = {"one": "one", "mirrorof": "mirror", "neither": "neither"}
# Its core can be placed on itself in 1,296 ways, also with a further neighbour of piece 0.
THREE_KNOTS = web_of(13, [(0, 1), (0, 5), (0, 9)] + [
    (first + low, first + high) for first in (1, 5, 9) for low in range(4) for high in range(low + 1, 4)])
# A hub with two ends and a knot; a piece with two knots.
ONE_KNOT = Web(list("habkkkk"), [(0, 1), (0, 2), (0, 3), *[
    (low, high) for low in range(3, 7) for high in range(low + 1, 7)]], [0])
TWO_KNOTS = web_of(9, [(0, 1), (0, 5)] + [
    (first + low, first + high) for first in (1, 5) for low in range(4) for high in range(low + 1, 4)])


def by_trying(web, piece, helper, its):
    """What helped tells, by all renamings."""
    held = sorts_by_trying(web)
    found = []
    for sort in sorted({rows[0] for rows in held.values()}):
        image = held[mirror(web, sort)][0]
        if sort < image:
            one, other = (joined(Body(web, at), piece, helper, its) for at in (sort, image))
            word = "neither"
            if rows_leading(one, other.mirrored()):
                word = "mirror"
            if rows_leading(one, other):
                word = "one"
            found.append((sort, image, word))
    return tuple(found)


def has_room(web, piece):
    many = sum(piece in tie for tie in web.ties)
    return many == 2 if any(piece in tie for tie in web.stiff) else many < 4


class TestHelped(Asking):
    def test_against_trying(self):
        rng = random.Random(1101)
        words = []
        webs = [web for web in webs_with_marks(1102, 120, 3) if len(web) < 8 and pairs_of(web)] * 3
        webs += [HUB] * 30 + [PAIR] * 10
        for web in webs:
            helper = rng.choice((DOT, any_body(rng, any_web(rng, most=4)), any_body(rng, web),
                                 any_body(rng, HUB)))
            piece, its = rng.randrange(len(web)), rng.randrange(len(helper.web))
            if web == HUB:
                piece, helper, its = 0, Body(Web([rng.choice("abcd")], []), []), 0
            if not has_room(web, piece) or not has_room(helper.web, its):
                self.assert_raises(BadWeb("room"), helped, web, piece, helper, its)
                continue
            found = helped(web, piece, helper, its)
            self.assertEqual(found, by_trying(web, piece, helper, its))
            self.assertEqual(found, helped(web, piece, helper, its))
            self.assertEqual(tuple((one, other) for one, other, _ in found), pairs_of(web))
            words += [word for _, _, word in found]
        for word in ("one", "mirror", "neither"):
            self.assertGreater(words.count(word), 5, word)

    def test_a_neighbour_becomes_like_another_one(self):
        for kind, word in (("a", "one"), ("b", "one"), ("d", "one"), ("c", "mirror"), ("z", "mirror")):
            self.assertEqual(helped(HUB, 0, Body(Web([kind], []), []), 0), (((-1,), (1,), word),))
        # Behind the neighbour a, not beside it.
        self.assertEqual(helped(HUB, 1, Body(Web(["a"], []), []), 0), (((-1,), (1,), "mirror"),))

    def test_the_web_itself_as_the_helper(self):
        for sign in (1, -1):
            self.assertEqual(helped(HUB, 1, Body(HUB, [sign]), 1), (((-1,), (1,), "neither"),))
            self.assertEqual(helped(HUB, 0, Body(HUB, [sign]), 0), (((-1,), (1,), "neither"),))
        # One of the two is tied to its like, the other one to its mirror image.
        like, unlike = (joined(Body(HUB, [sign]), 1, Body(HUB, [1]), 1) for sign in (1, -1))
        self.assertEqual((bool(mirrorlike(like)), bool(mirrorlike(unlike))), (False, True))

    def test_mirrored_helpers(self):
        rng = random.Random(1103)
        met = []
        for web in [web for web in webs_with_marks(1104, 60, 2) if pairs_of(web) and len(web) < 8]:
            for helper in [any_body(rng, web) for web in some_webs(rng.random(), 6, most=6, kinds="ab")]:
                piece, its = rng.randrange(len(web)), rng.randrange(len(helper.web))
                if not has_room(web, piece) or not has_room(helper.web, its):
                    continue
                found = helped(web, piece, helper, its)
                for one, other, word in found:
                    first, second = (joined(Body(web, at), piece, helper, its) for at in (one, other))
                    self.assertEqual(WORDS[same(first, second).word], word)
                # The least setting of the mirror image must have this piece at its place.
                if any(row[piece] != piece for row in all_rows(web, web)):
                    continue
                # With the helper's mirror image all that is told is mirrored: the words stay.
                self.assertEqual(helped(web, piece, helper.mirrored(), its), found)
                rows = rows_leading(helper, helper.mirrored())
                if any(row[its] == its for row in rows):
                    self.assertNotIn("neither", [word for _, _, word in found])
                    met.append(bool(helper.web.marks))
        self.assertGreater(min(met.count(True), met.count(False)), 4)

    def test_no_pairs(self):
        self.assertEqual(helped(STAR, 0, DOT, 0), ())
        self.assertEqual(helped(Web(["a"], []), 0, Body(HUB, [1]), 2), ())

    def test_errors(self):
        for value in (None, DOT, "a", 3, *ODD_VALUES):
            self.assert_raises(BadWeb("web"), helped, value, None, None, None)
        for value in (4, -1, *NO_INTEGERS):
            self.assert_raises(NoPiece(value), helped, HUB, value, None, None)
            self.assert_raises(NoPiece(value), helped, HUB, 0, Body(HUB, [1]), value)
        for value in (None, HUB, "a", 3):
            self.assert_raises(BadBody("helper"), helped, HUB, 0, value, None)
        full = joined(Body(HUB, [1]), 0, DOT, 0)
        self.assert_raises(BadWeb("room"), helped, full.web, 0, DOT, 0)
        self.assert_raises(BadWeb("room"), helped, HUB, 0, full, 0)
        split = Body(web_of(6, [(0, 1), (0, 2), (0, 3), (1, 4), (1, 5)], [], [(0, 1)]), [1])
        self.assert_raises(BadWeb("room"), helped, HUB, 0, split, 1)
        self.assert_raises(BadWeb("room"), helped, split.web, 0, DOT, 0)

    def test_bounds(self):
        # Room comes ahead of too many pieces, these ahead of too many marks, these ahead of renamings.
        self.assert_raises(BadWeb("room"), helped, cube(4), 0, DOT, 0)
        long = Body(web_of(5, [(0, 1), (1, 2), (2, 3), (3, 4)]), [])
        self.assertEqual(len(TWELVE), 12)
        self.assert_raises(TooMany("pieces", 16), helped, TWELVE, 0, long, 0)
        self.assert_raises(TooMany("marks", 6), helped, TWELVE, 0, DOT, 0)
        self.assert_raises(TooMany("marks", 6), helped, EIGHT, 0, DOT, 0)
        seven = web_of(8, cube(3).ties, list(range(7)), [], list("abcdefgh"))
        self.assert_raises(TooMany("marks", 6), helped, seven, 0, DOT, 0)
        self.assert_raises(TooMany("renamings", 400), helped, THREE_KNOTS, 0, DOT, 0)
        # Without a pair no two bodies are compared; with one, what is joined can be placed in 432 ways.
        self.assertEqual(helped(Web(["a"], []), 0, Body(THREE_KNOTS, []), 0), ())
        self.assert_raises(TooMany("renamings", 400), helped, ONE_KNOT, 0, Body(TWO_KNOTS, []), 0)
        self.assertEqual(helped(ONE_KNOT, 0, DOT, 0), (((-1,), (1,), "mirror"),))
        hubs = web_of(6, [(0, 1), (1, 2), (2, 3), (3, 4), (4, 5), (1, 5)], [1])
        self.assert_raises(TooMany("pieces", 16), helped, hubs, 0, Body(THREE_KNOTS, []), 0)

    def test_short_times(self):
        begun = time.process_time()
        six = web_of(8, cube(3).ties, list(range(6)), [], list("abcdefgh"))
        found = helped(six, 6, Body(six, [1, -1, 1, 1, -1, 1]), 7)
        self.assertEqual(len(found), 32)
        ring = web_of(12, [(at, (at + 1) % 6) for at in range(6)] + [(at, at + 6) for at in range(6)],
                      list(range(6)))
        self.assertEqual(len(helped(ring, 0, Body(HUB, [1]), 0)), len(pairs_of(ring)))
        self.assertLess(time.process_time() - begun, 5)


class TestCheckMixtures(Asking):
    def test_against_listing(self):
        rng, found = listings(1111, 25)
        answers = []
        for listing in found * 2:
            rows = any_work(rng, listing)
            work = Work(listing.web, rows)
            made = {sort: listing.after(rows, {sort: 1}) for sort in listing.sorts}
            handed, upset = [], []
            for sort in listing.sorts:
                image = listing.image(sort)
                if made[image] != listing.mirrored(made[sort]):
                    handed.append(sort)
                both = dict(made[sort])
                for to, amount in made[image].items():
                    both[to] = both.get(to, 0) + amount
                if both != listing.mirrored(both):
                    upset.append(sort)
            self.assertIs(shows_handless(work, handless(work)), True)
            self.assertIs(shows_balance(work, keeps_balance(work)), True)
            self.assertIs(shows_handless(work, Handless()), not handed)
            self.assertIs(shows_balance(work, KeepsBalance()), not upset)
            for setting in settings(listing.web):
                sort = listing.sort(setting)
                told = rng.choice((tuple, list))(setting)
                self.assertIs(shows_handless(work, HandedAt(told)), sort in handed)
                self.assertIs(shows_balance(work, Upsets(told)), sort in upset)
                answers.append((sort in handed, sort in upset))
        for answer in ((True, True), (False, False)):
            self.assertGreater(answers.count(answer), 20, answer)

    def test_balance_without_being_handless(self):
        web = Web(list("abcdhhh"), [(0, 4), (1, 4), (4, 5), (2, 5), (5, 6), (3, 6), (0, 6)], [4, 5, 6])
        work = Work(web, [(("one", (-1, -1, -1)), (1, 1), [0]), (("one", (1, 1, 1)), (1, 2), [0, 1, 2]),
                          (("either", (1, -1, -1)), (1, 2), [0, 1, 2])])
        handed = [(1, 1, 1), (-1, -1, -1)]
        for setting in settings(web):
            self.assertIs(shows_handless(work, HandedAt(setting)), setting in handed)
            self.assertIs(shows_balance(work, Upsets(setting)), False)
        self.assertIs(shows_handless(work, Handless()), False)
        self.assertIs(shows_balance(work, KeepsBalance()), True)

    def test_bent_papers(self):
        work = Work(PAIR, [(("one", (1, 1)), (1, 2), [0])])
        self.assertEqual(handless(work).word, "handedat")
        for setting in bent_values((1, 1)):
            right = repr(setting) in ("(-1, -1)", "(1, 1)")
            self.assertIs(shows_handless(work, HandedAt(setting)), right, setting)
            self.assertIs(shows_balance(work, Upsets(setting)), right, setting)
        free = Work(PAIR, [(None, (1, 2), [0])])
        for setting in settings(PAIR):
            self.assertIs(shows_handless(free, HandedAt(setting)), False)
            self.assertIs(shows_balance(free, Upsets(setting)), False)

    def test_any_value(self):
        work, free = Work(PAIR, [(("one", (1, 1)), (1, 2), [0])]), Work(PAIR, [(None, (1, 2), [0])])

        class FakeHandless(Handless):
            pass

        class FakeHandedAt(HandedAt):
            pass

        class FakeKeepsBalance(KeepsBalance):
            pass

        class FakeUpsets(Upsets):
            pass

        papers = [Paper("handless"), Denial("handedat", (1, 1)), Paper("keepsbalance"), Denial("upsets", (1, 1)),
                  Handless, FakeHandless(), FakeUpsets((1, 1)), FakeHandedAt((1, 1)), FakeKeepsBalance(),
                  HandedAt(None), work, (1, 1)]
        for paper in (Handless(), HandedAt((1, 1)), KeepsBalance(), Upsets((1, 1))):
            papers += same_named(paper)
        for value in [*papers, *ODD_VALUES]:
            for told in (work, free):
                self.assertIs(shows_handless(told, value), False)
                self.assertIs(shows_balance(told, value), False)
        for told in (work, free):
            self.assertIs(shows_handless(told, KeepsBalance()), False)
            self.assertIs(shows_handless(told, Upsets((1, 1))), False)
            self.assertIs(shows_balance(told, Handless()), False)
            self.assertIs(shows_balance(told, HandedAt((1, 1))), False)
        for value in (None, PAIR, [], "a", handless(work)):
            self.assert_raises(BadWork("work"), shows_handless, value, None)
            self.assert_raises(BadWork("work"), shows_balance, value, None)

    def test_short_times(self):
        begun = time.process_time()
        for web in (EIGHT, web_of(8, cube(3).ties, list(range(8)))):
            work = Work(web, [(("one", [1] * 8), (1, 3), [at]) for at in range(8)])
            self.assertIs(shows_handless(work, handless(work)), True)
            self.assertIs(shows_balance(work, keeps_balance(work)), True)
        self.assertLess(time.process_time() - begun, 5)


if __name__ == "__main__":
    unittest.main()
