"""Mixtures and works, told once more in fractions from the words of the document."""

import random
import time
import unittest
from fractions import Fraction

from otherhand.bodies import Body
from otherhand.errors import BadBody, BadMixture, BadNumber, BadWeb, BadWork, Misfit, NoMark, TooMany, Twice
from otherhand.mixtures import Mixture, alone, even, mixed, told_apart
from otherhand.papers import Denial, Paper
from otherhand.sorts import mirrorlike_sorts, pairs_of, sorts
from otherhand.webs import Web
from otherhand.works import HandedAt, Handless, KeepsBalance, Upsets, Work, handless, keeps_balance
from tests.helping import ODD_VALUES, Agreeing, Asking
from tests.oracle import mirror, settings, sorts_by_trying, web_of
from tests.test_renamings import cube
from tests.test_sorts import DOUBLE, ELEVEN, FULL, STAR, TEN, TWELVE
from tests.test_counting import BUSH
from tests.test_turnings import PAIR, webs_with_marks

NO_FRACTIONS = [None, True, 0, 1, "1", (1,), (1, 2, 3), (2, 4), (1, 0), (-1, -2), (1, -2), (0, 2), (0, 0),
                (True, 2), (1, True), (1.0, 2), ("1", "2"), [[1], 2], {1, 2}, (3, 3), 0.5, (None, 1)]
# Eight hubs of eight kinds: each setting is a sort.
EIGHT = web_of(8, cube(3).ties, list(range(8)), [], list("abcdefgh"))
NINE = web_of(9, [tie for tie in cube(3).ties if tie != (0, 1)] + [(0, 8), (1, 8), (2, 8)],
              [0, 1, 2, 3, 4, 5, 6, 7, 8])


def told(fraction):
    """A fraction as the document tells it."""
    return (fraction.numerator, fraction.denominator)


def any_parts(rng, many, great=12):
    """So many fractions above 0 that add up to 1."""
    weights = [rng.randint(1, great) for _ in range(many)]
    return [Fraction(weight, sum(weights)) for weight in weights]


class Listing:
    """The sorts of a web by trying, with shares as fractions in dicts by sorts."""

    def __init__(self, web):
        self.web = web
        self.held = sorts_by_trying(web)
        self.sorts = sorted({found[0] for found in self.held.values()})

    def sort(self, setting):
        return self.held[tuple(setting)][0]

    def image(self, sort):
        return self.sort(mirror(self.web, sort))

    def any_shares(self, rng, most=4, great=12):
        chosen = rng.sample(self.sorts, rng.randint(1, min(most, len(self.sorts))))
        return dict(zip(chosen, any_parts(rng, len(chosen), great)))

    def mixture(self, rng, shares):
        """The Mixture of these shares, told by any settings, in any order."""
        rows = [(rng.choice(self.held[sort]), told(share)) for sort, share in shares.items()]
        rng.shuffle(rows)
        rows = [rng.choice((row, list(row), (list(row[0]), list(row[1])))) for row in rows]
        return Mixture(self.web, rng.choice((rows, tuple(rows))))

    def mirrored(self, shares):
        return {self.image(sort): share for sort, share in shares.items()}

    def excess(self, shares):
        pairs = {tuple(sorted((sort, self.image(sort)))) for sort in self.sorts}
        return sum(abs(shares.get(one, 0) - shares.get(other, 0)) for one, other in pairs) + Fraction(0)

    def after(self, rows, shares):
        """What a work makes, setting by setting."""
        for whom, share, lot in rows:
            share = Fraction(*share)
            made = {}
            for sort, amount in shares.items():
                meant = whom is None or sort == self.sort(whom[1])
                if whom is not None and whom[0] == "either":
                    meant = meant or sort == self.image(self.sort(whom[1]))
                part = share if meant else Fraction(0)
                made[sort] = made.get(sort, 0) + amount * (1 - part)
                for setting in self.held[sort]:
                    turned = tuple(-sign if at in lot else sign for at, sign in enumerate(setting))
                    to = self.sort(turned)
                    made[to] = made.get(to, 0) + amount * part / len(self.held[sort])
            shares = {sort: amount for sort, amount in made.items() if amount}
        return shares


def pairs_told(shares):
    """The attribute shares of a mixture with these."""
    return tuple((sort, told(shares[sort])) for sort in sorted(shares))


def any_work(rng, listing, most=4):
    rows = []
    for _ in range(rng.randint(1, most)):
        setting = rng.choice(list(listing.held))
        whom = rng.choice((None, ("one", setting), ("either", setting), ["one", list(setting)]))
        by = rng.randint(1, 5)
        share = told(Fraction(rng.randint(0, by), by))
        many = len(listing.web.marks)
        lot = rng.sample(range(many), rng.randint(0, min(3, many)))
        rows.append((whom, rng.choice((share, list(share))), rng.choice((lot, tuple(lot)))))
    return rows


def listings(seed, many, most_marks=4):
    rng = random.Random(seed)
    return rng, [Listing(web) for web in webs_with_marks(seed + 1, many, most_marks)]


class TestMixtures(Asking):
    def test_against_listing(self):
        rng, found = listings(901, 20)
        met = [0] * 3
        for listing in found:
            for great in (3, 12, 10 ** 40):
                shares = listing.any_shares(rng, great=great)
                mixture = listing.mixture(rng, shares)
                self.assertEqual(mixture.web, listing.web)
                self.assertEqual(mixture.shares, pairs_told(shares))
                image = listing.mirrored(shares)
                self.assertEqual(mixture.mirrored().shares, pairs_told(image))
                self.assertEqual(mixture.mirrored().mirrored(), mixture)
                self.assertIs(mixture.is_balanced, image == shares)
                self.assertEqual(mixture.excess, told(listing.excess(shares)))
                self.assertEqual(mixture.excess == (0, 1), mixture.is_balanced)
                for setting in rng.sample(settings(listing.web), min(4, len(listing.held))):
                    share = told(Fraction(shares.get(listing.sort(setting), 0)))
                    self.assertEqual(mixture.share(list(setting)), share)
                self.assertEqual(listing.mixture(rng, shares), mixture)
                met[0] += mixture.is_balanced
                met[1] += mixture.excess not in ((0, 1), (1, 1))
                met[2] += len(shares) > 2
        self.assertGreater(min(met), 10, met)

    def test_even_and_alone(self):
        rng, found = listings(903, 15)
        for listing in found:
            many = len(listing.held)
            shares = {sort: Fraction(len(listing.held[sort]), many) for sort in listing.sorts}
            self.assertEqual(even(listing.web).shares, pairs_told(shares))
            self.assertIs(even(listing.web).is_balanced, True)
            setting = rng.choice(settings(listing.web))
            self.assertEqual(alone(listing.web, list(setting)).shares, ((listing.sort(setting), (1, 1)),))
        web = web_of(1, [])
        self.assertEqual((even(web).shares, even(web).excess), ((((), (1, 1)),), (0, 1)))
        self.assertEqual(even(web), alone(web, []))

    def test_mixed_and_told_apart(self):
        rng, found = listings(905, 20)
        apart = []
        for listing in found:
            first, second = listing.any_shares(rng), listing.any_shares(rng)
            one, other = listing.mixture(rng, first), listing.mixture(rng, second)
            for share in ((0, 1), (1, 1), (1, 2), [2, 7], told(Fraction(rng.randint(1, 10 ** 40), 10 ** 40))):
                part = Fraction(*share)
                made = {sort: first.get(sort, 0) * part + second.get(sort, 0) * (1 - part)
                        for sort in listing.sorts}
                made = {sort: amount for sort, amount in made.items() if amount}
                self.assertEqual(mixed(one, other, share).shares, pairs_told(made))
            self.assertEqual(mixed(one, other, (0, 1)), other)
            self.assertEqual(mixed(one, one.mirrored(), (1, 2)).is_balanced, True)
            asked = None
            for sort in reversed(listing.sorts):
                both = {sort, listing.image(sort)}
                if sum(first.get(at, 0) for at in both) != sum(second.get(at, 0) for at in both):
                    asked = sort
            self.assertEqual(told_apart(one, other), asked)
            self.assertIsNone(told_apart(one, one.mirrored()))
            apart.append(asked is None)
        self.assertGreater(min(apart.count(True), apart.count(False)), 10)

    def test_equality(self):
        one = Mixture(PAIR, [((1, 1), (1, 2)), ((1, -1), (1, 2))])
        self.assertEqual(one, Mixture(PAIR, (([-1, 1], [1, 2]), [(1, 1), (1, 2)])))
        self.assertNotEqual(one, Mixture(PAIR, [((1, 1), (1, 3)), ((1, -1), (2, 3))]))
        self.assertNotEqual(one, Mixture(PAIR.with_kind(0, "z"), one.shares))
        for other in (None, one.shares, PAIR, "a", Work(PAIR, [(None, (1, 1), [])])):
            self.assertIs(one == other, False)

    def test_shares(self):
        pair = ((1, 1), (1, 2))
        for shares in [None, True, 3, "ab", {}, [1], [pair, 3], [pair, ((1, 1),)], [((1, 1), (1, 2), 3)],
                       [pair, ((1,), (1, 2))], [pair, ((1, 0), (1, 2))], [pair, ((1, True), (1, 2))],
                       [pair, (None, (1, 2))], [pair, ((1, 1, 1), (1, 2))], {pair}, [pair, "ab"], pair]:
            self.assert_raises(BadMixture("shares"), Mixture, PAIR, shares)
        for share in [*NO_FRACTIONS, (0, 1), (-1, 2)]:
            self.assert_raises(BadMixture("shares"), Mixture, PAIR, [((1, 1), share)])
            self.assert_raises(BadMixture("shares"), Mixture, PAIR, [pair, ((1, 1), share)])
        for shares in ([], (), [pair], [((1, 1), (3, 2))], [pair, ((1, -1), (2, 3))],
                       [pair, ((1, -1), (10 ** 40 - 1, 2 * 10 ** 40))]):
            self.assert_raises(BadMixture("sum"), Mixture, PAIR, shares)
        # One sort twice comes ahead of the sum, and tells the setting as it was passed.
        error = self.assert_raises(Twice([-1, 1]), Mixture, PAIR, [((1, -1), (1, 3)), ([-1, 1], (1, 3)), pair])
        self.assertIs(type(error.value), list)
        self.assert_raises(Twice((1, 1)), Mixture, PAIR, [pair, ((1, -1), (1, 7)), pair, ((-1, 1), (1, 2))])
        self.assertEqual(Mixture(PAIR, [((1, 1), (1, 1))]), alone(PAIR, (1, 1)))
        great = 10 ** 60
        held = Mixture(PAIR, [((1, 1), (1, great)), ((1, -1), (great - 1, great))])
        self.assertEqual((held.share((1, 1)), held.excess), ((1, great), (1, great)))

    def test_errors(self):
        one = even(PAIR)
        for value in (None, one, Body(STAR, [1]), "a", 3):
            self.assert_raises(BadWeb("web"), Mixture, value, None)
            self.assert_raises(BadWeb("web"), alone, value, None)
            self.assert_raises(BadWeb("web"), even, value)
        for value in [*ODD_VALUES, [1], [1, 0], [1, True], (1, 1, 1)]:
            self.assert_raises(BadBody("setting"), alone, PAIR, value)
            self.assert_raises(BadBody("setting"), one.share, value)
        far = even(STAR)
        for value in (None, PAIR, one.shares, "a", 3):
            self.assert_raises(BadMixture("one"), mixed, value, None, None)
            self.assert_raises(BadMixture("other"), mixed, one, value, None)
            self.assert_raises(BadMixture("one"), told_apart, value, None)
            self.assert_raises(BadMixture("other"), told_apart, one, value)
        for value in [*NO_FRACTIONS, (3, 2), (-1, 2), (2, 1)]:
            self.assert_raises(BadNumber("share"), mixed, one, far, value)
        self.assert_raises(Misfit("webs"), mixed, one, far, (1, 2))
        self.assert_raises(Misfit("webs"), told_apart, one, far)
        self.assert_raises(Misfit("webs"), told_apart, one, even(PAIR.with_kind(2, "z")))

    def test_bounds(self):
        for web in (ELEVEN, TWELVE, cube(4)):
            many = [1] * len(web.marks)
            self.assert_raises(TooMany("marks", 10), Mixture, web, [(many, (1, 2))])
            self.assert_raises(BadMixture("shares"), Mixture, web, [(many, (2, 2))])
            self.assert_raises(TooMany("marks", 10), alone, web, many)
            self.assert_raises(TooMany("marks", 10), even, web)
        self.assert_raises(TooMany("renamings", 400), Mixture, FULL, [([1] * 8, (1, 2))])
        self.assert_raises(TooMany("renamings", 400), alone, FULL, [1] * 8)
        self.assert_raises(TooMany("renamings", 400), even, FULL)
        # The ways to place the core count: there is one.
        self.assertEqual(even(BUSH).shares, (((-1, -1, -1, -1), (1, 1)),))
        begun = time.process_time()
        for web in (TEN, DOUBLE):
            mixture = even(web)
            self.assertEqual(len(mixture.shares), len(sorts(web)))
            other = alone(web, [1] * 10)
            self.assertEqual(mixed(mixture, other, (1, 3)).share([1] * 10),
                             told((Fraction(*mixture.share([1] * 10)) + 2) / 3))
            self.assertEqual(told_apart(mixture, mixture.mirrored()), None)
            self.assertEqual(other.excess, told(Fraction(int(not other.is_balanced))))
        self.assertLess(time.process_time() - begun, 5)


class TestWorks(Asking):
    def test_against_listing(self):
        rng, found = listings(911, 20)
        for listing in found:
            rows = any_work(rng, listing)
            work = Work(listing.web, rng.choice((rows, tuple(rows))))
            self.assertEqual(work.rows, tuple(
                (whom and (whom[0], tuple(whom[1])), tuple(share), tuple(sorted(lot)))
                for whom, share, lot in rows))
            self.assertEqual(work.web, listing.web)
            for _ in range(3):
                shares = listing.any_shares(rng)
                mixture = listing.mixture(rng, shares)
                made = listing.after(rows, shares)
                self.assertEqual(work.after(mixture).shares, pairs_told(made))
                self.assertEqual(mixture.shares, pairs_told(shares))
                # Two works one behind another are one work of both.
                more = any_work(rng, listing)
                both = Work(listing.web, [*rows, *more])
                self.assertEqual(both.after(mixture), Work(listing.web, more).after(work.after(mixture)))

    def test_handless_and_balance(self):
        rng, found = listings(913, 30)
        words = []
        for listing in found * 2:
            rows = any_work(rng, listing)
            work = Work(listing.web, rows)
            made = {sort: listing.after(rows, {sort: Fraction(1)}) for sort in listing.sorts}
            handed = [sort for sort in listing.sorts
                      if made[listing.image(sort)] != listing.mirrored(made[sort])]
            paper = handless(work)
            self.assertEqual(paper, handless(work))
            self.assertIs(type(paper), HandedAt if handed else Handless)
            self.assertIs(bool(paper), not handed)
            if handed:
                self.assertIn(paper.setting, handed)
            upset = []
            for sort in listing.sorts:
                both = dict(made[sort])
                for to, amount in made[listing.image(sort)].items():
                    both[to] = both.get(to, 0) + amount
                if both != listing.mirrored(both):
                    upset.append(sort)
            balance = keeps_balance(work)
            self.assertEqual(balance, keeps_balance(work))
            self.assertIs(type(balance), Upsets if upset else KeepsBalance)
            if upset:
                self.assertIn(balance.setting, upset)
            if paper:
                self.assertIs(bool(balance), True)
                mixture = listing.mixture(rng, listing.any_shares(rng))
                self.assertLessEqual(Fraction(*work.after(mixture).excess), Fraction(*mixture.excess))
            words.append((bool(paper), bool(balance)))
        self.assertGreater(min(words.count((True, True)), words.count((False, False))), 10)

    def test_balance_without_being_handless(self):
        # Of one body half each of two mirror images comes, of its mirror image half each of two others.
        web = Web(list("abcdhhh"), [(0, 4), (1, 4), (4, 5), (2, 5), (5, 6), (3, 6), (0, 6)], [4, 5, 6])
        self.assertEqual(len(sorts(web)), 8)
        rows = [(("one", (-1, -1, -1)), (1, 1), [0]), (("one", (1, 1, 1)), (1, 2), [0, 1, 2]),
                (("either", (1, -1, -1)), (1, 2), [0, 1, 2])]
        work = Work(web, rows)
        start = alone(web, (1, 1, 1))
        self.assertEqual(work.after(start).shares, (((-1, -1, -1), (1, 2)), ((1, 1, 1), (1, 2))))
        self.assertEqual(work.after(start.mirrored()).shares, (((-1, 1, 1), (1, 2)), ((1, -1, -1), (1, 2))))
        self.assertIs(bool(keeps_balance(work)), True)
        self.assertIn(handless(work), (HandedAt((1, 1, 1)), HandedAt((-1, -1, -1))))
        self.assertIs(bool(keeps_balance(Work(web, rows[:2]))), False)

    def test_handed_at_a_mirrorlike_sort_alone(self):
        rows = [(("either", (-1, 1)), (1, 2), (1,)), (None, (1, 1), (0,)), (("one", (1, 1)), (1, 1), (0,))]
        work = Work(PAIR, rows)
        self.assertEqual(handless(work), HandedAt((-1, 1)))
        self.assertEqual(keeps_balance(work), Upsets((-1, 1)))

    def test_facts(self):
        rng, found = listings(915, 20)
        for listing in found:
            many = len(listing.web.marks)
            lot = rng.sample(range(many), rng.randint(0, many))
            free = Work(listing.web, [(None, (1, 3), lot), (None, (1, 1), lot[:1])])
            self.assertEqual(free.after(even(listing.web)), even(listing.web))
            self.assertEqual(handless(free), Handless())
            self.assertEqual(keeps_balance(free), KeepsBalance())
            setting = rng.choice(settings(listing.web))
            either = Work(listing.web, [(("either", setting), (2, 3), lot)])
            self.assertEqual(handless(either), Handless())
            for sort in mirrorlike_sorts(listing.web)[:2]:
                one = Work(listing.web, [(("one", sort), (2, 3), lot)])
                self.assertEqual(handless(one), Handless())
            for one, other in pairs_of(listing.web)[:2]:
                both = [(("one", one), (1, 2), []), (("one", other), (1, 2), [])]
                self.assertEqual(handless(Work(listing.web, both)), Handless())

    def test_rows_are_kept_as_told(self):
        rows = [[["one", [-1, 1]], [1, 2], [1, 0]], (None, (0, 1), ()), (("either", (1, -1)), (1, 1), [1])]
        work = Work(PAIR, rows)
        self.assertEqual(work.rows, ((("one", (-1, 1)), (1, 2), (0, 1)), (None, (0, 1), ()),
                                     (("either", (1, -1)), (1, 1), (1,))))
        self.assertEqual(work, Work(PAIR, work.rows))
        # The same sort, told by another setting.
        other = Work(PAIR, [(("one", (1, -1)), (1, 2), (0, 1)), *rows[1:]])
        self.assertNotEqual(work, other)
        self.assertEqual(work.after(even(PAIR)), other.after(even(PAIR)))
        self.assertNotEqual(work, Work(PAIR.with_kind(0, "z"), rows))
        for value in (None, work.rows, PAIR, even(PAIR)):
            self.assertIs(work == value, False)
        self.assertEqual(len(Work(PAIR, rows[:1] * 8).rows), 8)

    def test_errors(self):
        row = (None, (1, 2), [0])
        for value in (None, even(PAIR), Body(STAR, [1]), "a", 3):
            self.assert_raises(BadWeb("web"), Work, value, None)
        for rows in [*ODD_VALUES, [row] * 9, row, [row, 3], [row, (None, (1, 2))], [row, (*row, 1)], {row[0]: 1},
                     [row, "abc"]]:
            self.assert_raises(BadWork("rows"), Work, PAIR, rows)
        for whom in [True, 3, "one", ("one",), ("one", (1, 1), 1), ("both", (1, 1)), (None, (1, 1)), (),
                     ("one", None), ("one", (1,)), ("either", (1, 0)), ("one", (True, 1)), ((1, 1), "one"),
                     {"one": (1, 1)}, ("One", (1, 1)), (["one"], (1, 1)), (Agreeing(), (1, 1)), Agreeing()]:
            self.assert_raises(BadWork("rows"), Work, PAIR, [row, (whom, (1, 2), [0])])
        for share in [*NO_FRACTIONS, (3, 2), (-1, 2), (2, 1)]:
            self.assert_raises(BadWork("rows"), Work, PAIR, [row, (None, share, [0])])
        for lot in [None, True, 0, "0", {}, [True], ["0"], [None], [[0]], {0}, [0.0]]:
            self.assert_raises(BadWork("rows"), Work, PAIR, [(None, (1, 2), [7]), (None, (1, 2), lot)])
        self.assert_raises(NoMark(2), Work, PAIR, [row, (None, (1, 2), [0, 0, 2, -1]), (None, (1, 2), [9])])
        self.assert_raises(Twice(0), Work, PAIR, [(None, (1, 2), [1, 0, 0, 1]), (None, (1, 2), [9])])
        self.assert_raises(NoMark(-1), Work, PAIR, [(None, (1, 2), [-1])])
        work = Work(PAIR, [row])
        for value in (None, PAIR, even(PAIR), [row], "a"):
            self.assert_raises(BadWork("work"), handless, value)
            self.assert_raises(BadWork("work"), keeps_balance, value)
        for value in (None, PAIR, work, even(PAIR).shares):
            self.assert_raises(BadMixture("mixture"), work.after, value)
        self.assert_raises(Misfit("webs"), work.after, even(STAR))
        self.assert_raises(Misfit("webs"), work.after, even(PAIR.with_kind(2, "z")))

    def test_bounds(self):
        row = (None, (1, 2), [0])
        self.assertEqual(len(NINE.marks), 9)
        for web in (NINE, TEN, TWELVE, cube(4)):
            self.assert_raises(TooMany("marks", 8), Work, web, [row])
            self.assert_raises(NoMark(99), Work, web, [(None, (1, 2), [99])])
        self.assert_raises(TooMany("renamings", 400), Work, FULL, [row])
        self.assertIs(bool(handless(Work(BUSH, [row]))), True)

    def test_short_times(self):
        rng = random.Random(917)
        begun = time.process_time()
        great = 10 ** 30
        for web in (EIGHT, web_of(8, cube(3).ties, list(range(8)))):
            setting = [rng.choice((1, -1)) for _ in range(8)]
            for rows in ([(None, (1, 3), [at]) for at in range(8)],
                         [(None, (at + 1, great + 1 + 2 * at), [at, (at + 3) % 8]) for at in range(8)
                          if Fraction(at + 1, great + 1 + 2 * at).numerator == at + 1],
                         [(("one", setting), (1, 2), [at]) for at in range(8)],
                         [(("either", setting), (1, 2), [at]) for at in range(8)]):
                work = Work(web, rows)
                self.assertIs(bool(handless(work)), rows[0][0] is None or rows[0][0][0] == "either"
                              or alone(web, setting).is_balanced)
                self.assertLessEqual(bool(handless(work)), bool(keeps_balance(work)))
                mixture = work.after(alone(web, setting))
                self.assertEqual(sum(Fraction(*share) for _, share in mixture.shares), 1)
        self.assertLess(time.process_time() - begun, 8)

    def test_papers(self):
        self.assertEqual((Handless().word, Handless().parts), ("handless", ()))
        self.assertEqual((KeepsBalance().word, KeepsBalance().parts), ("keepsbalance", ()))
        self.assertEqual(HandedAt([1, -1]).setting, (1, -1))
        self.assertNotEqual(HandedAt((1,)), Upsets((1,)))
        self.assertNotEqual(Handless(), KeepsBalance())
        self.assertNotEqual(Handless(), Paper("handless"))
        self.assertTrue(isinstance(Upsets(1), Denial) and not isinstance(Handless(), Denial))
        self.assertEqual([bool(paper) for paper in (Handless(), KeepsBalance(), HandedAt(0), Upsets(0))],
                         [True, True, False, False])


if __name__ == "__main__":
    unittest.main()
