"""What is sure, never, or open, against a trial of all settings and all renamings."""

import random
import time
import unittest
from itertools import combinations

from otherhand.answers import (
    NeverSummed, NeverTried, NoBody, Open, Summed, Tried, fitting, fitting_sorts, judged,
)
from otherhand.asking import best_mark, fewest_sayings
from otherhand.bodies import Body
from otherhand.check_sayings import shows_judged, shows_no_body
from otherhand.errors import BadSaying, Impossible, Misfit, NoMark, TooMany
from otherhand.papers import Denial, Paper
from otherhand.sayings import IsMirrorlike, IsOne, Product, Told
from otherhand.webs import Web
from tests.helping import ODD_VALUES, Asking, bent_values, same_named
from tests.oracle import any_setting, mirror, settings, sorts_by_trying, web_of, web_with_all_hubs
from tests.test_counting import BUSH
from tests.test_mixtures import EIGHT
from tests.test_renamings import cube
from tests.test_sorts import FULL, STAR
from tests.test_turnings import PAIR, webs_with_marks

RING = web_with_all_hubs(16, [(at, (at + 1) % 8) for at in range(8)] + [(at, at + 8) for at in range(8)])
LIKE = Told(PAIR, [IsMirrorlike()])
PLAIN = Told(PAIR, [Product([0], 1), Product([1], -1)])
ASKED = [fitting, fitting_sorts, best_mark]
OF_A_SAYING = [judged, fewest_sayings, lambda told, saying: shows_judged(told, saying, None)]


class Trial:
    """All settings of a web, with what holds in each, by all renamings."""

    def __init__(self, web):
        self.web = web
        self.held = sorts_by_trying(web)

    def holds(self, saying, setting):
        if isinstance(saying, Product):
            product = 1
            for mark in saying.lot:
                product *= setting[mark]
            return product == saying.sign
        if isinstance(saying, IsMirrorlike):
            return (mirror(self.web, setting) in self.held[setting]) == saying.is_so
        return (saying.setting in self.held[setting]) == saying.is_so

    def fitting(self, sayings):
        return [at for at in settings(self.web) if all(self.holds(saying, at) for saying in sayings)]

    def sorts(self, fit):
        return sorted({self.held[setting][0] for setting in fit})

    def is_tree(self, tree, sayings, decided=()):
        """Whether a value is a tried tree, decided being pairs of a mark and its sign."""
        known = dict(decided)
        if type(tree) is int:
            if tree not in range(len(sayings)):
                return False
            if isinstance(sayings[tree], Product):
                if not set(sayings[tree].lot) <= set(known):
                    return False
                return not self.holds(sayings[tree], known)
            if set(known) != set(range(len(self.web.marks))):
                return False
            return not self.holds(sayings[tree], tuple(known[at] for at in sorted(known)))
        if not isinstance(tree, tuple) or len(tree) != 3 or type(tree[0]) is not int:
            return False
        if tree[0] in known or tree[0] not in range(len(self.web.marks)):
            return False
        return all(self.is_tree(tree[at], sayings, (*decided, (tree[0], sign))) for at, sign in ((1, -1), (2, 1)))

    def is_sum(self, sayings, asked, turn, numbers):
        if not isinstance(asked, Product) or not isinstance(numbers, tuple):
            return False
        if not all(type(at) is int and 0 <= at < len(sayings) for at in numbers):
            return False
        if list(numbers) != sorted(set(numbers)) or not all(isinstance(sayings[at], Product) for at in numbers):
            return False
        lot, sign = set(), turn
        for at in numbers:
            lot ^= set(sayings[at].lot)
            sign *= sayings[at].sign
        return lot == set(asked.lot) and sign == asked.sign

    def is_right(self, sayings, asked, paper):
        """Whether a paper is a right one, by the words of the document."""
        if type(paper) is Summed:
            return self.is_sum(sayings, asked, 1, paper.numbers)
        if type(paper) is NeverSummed:
            return self.is_sum(sayings, asked, -1, paper.numbers)
        if type(paper) is Tried:
            return self.is_tree(paper.tree, [*sayings, asked.contrary()])
        if type(paper) is NeverTried:
            return self.is_tree(paper.tree, [*sayings, asked])
        if type(paper) is not Open:
            return False
        if repr(paper.one) not in map(repr, settings(self.web)):
            return False
        if repr(paper.other) not in map(repr, settings(self.web)):
            return False
        fit = self.fitting(sayings)
        return (paper.one in fit and paper.other in fit and self.holds(asked, paper.one)
                and not self.holds(asked, paper.other))


def any_saying(rng, web):
    many = len(web.marks)
    how = rng.random()
    if how < 0.55:
        return Product(rng.sample(range(many), rng.randint(0, min(many, 3))), rng.choice((1, -1)))
    if how < 0.75:
        return IsMirrorlike(rng.random() < 0.5)
    return IsOne(any_setting(rng, web), rng.random() < 0.4)


def trials(seed, many, most_marks=4):
    return random.Random(seed), [Trial(web) for web in webs_with_marks(seed + 1, many, most_marks)]


def is_summed(sayings, asked):
    """Whether the asked lot is the sum of those of some told products."""
    if not isinstance(asked, Product):
        return False
    lots = [set(saying.lot) for saying in sayings if isinstance(saying, Product)]
    for size in range(len(lots) + 1):
        for chosen in combinations(lots, size):
            found = set()
            for lot in chosen:
                found ^= lot
            if found == set(asked.lot):
                return True
    return False


class TestAgainstTrying(Asking):
    def test_all(self):
        rng, found = trials(1301, 40)
        words = []
        for trial in found * 3:
            sayings = [any_saying(rng, trial.web) for _ in range(rng.randint(0, 5))]
            told = Told(trial.web, rng.choice((sayings, tuple(sayings))))
            fit = trial.fitting(sayings)
            self.assertEqual(fitting(told), tuple(fit))
            self.assertEqual(fitting_sorts(told), tuple(trial.sorts(fit)))
            for _ in range(3):
                asked = any_saying(rng, trial.web)
                words.append(self.check_judged(trial, told, asked, fit))
                self.check_fewest(trial, told, asked, fit)
            self.check_best(trial, told, fit)
        for word in ("summed", "neversummed", "tried", "nevertried", "open", None):
            self.assertGreater(words.count(word), 10, word)

    def check_judged(self, trial, told, asked, fit):
        """The word of the paper of judged, None if nothing fits."""
        if not fit:
            self.check_impossible(trial, told, judged, told, asked)
            return None
        paper = judged(told, asked)
        self.assertEqual(paper, judged(Told(told.web, told.sayings), asked))
        held = {trial.holds(asked, setting) for setting in fit}
        classes = {(True,): (Tried, Summed), (False,): (NeverTried, NeverSummed), (False, True): (Open, None)}
        plain, summed = classes[tuple(sorted(held))]
        self.assertIs(type(paper), summed if is_summed(told.sayings, asked) else plain)
        self.assertIs(bool(paper), True in held)
        self.assertTrue(trial.is_right(told.sayings, asked, paper))
        self.assertIs(shows_judged(told, asked, paper), True)
        turned = judged(told, asked.contrary())
        for one, other in ((Summed, NeverSummed), (Tried, NeverTried), (Open, Open)):
            self.assertEqual(type(paper) is one, type(turned) is other)
        if all(isinstance(saying, Product) for saying in (*told.sayings, asked)):
            self.assertIn(type(paper), (Summed, NeverSummed, Open))
        return paper.word

    def check_impossible(self, trial, told, call, *passed):
        with self.assertRaises(Impossible) as caught:
            call(*passed)
        paper = caught.exception.paper
        self.assertIs(type(paper), NoBody)
        self.assertIs(bool(paper), False)
        self.assertTrue(trial.is_tree(paper.tree, told.sayings))
        self.assertIs(shows_no_body(told, paper), True)

    def check_fewest(self, trial, told, asked, fit):
        if not fit:
            self.check_impossible(trial, told, fewest_sayings, told, asked)
            return
        answer = None
        for size in range(len(told.sayings) + 1):
            for chosen in combinations(range(len(told.sayings)), size):
                left = trial.fitting([told.sayings[at] for at in chosen])
                if answer is None and all(trial.holds(asked, setting) for setting in left):
                    answer = chosen
        self.assertEqual(fewest_sayings(told, asked), answer)
        sure = all(trial.holds(asked, setting) for setting in fit)
        self.assertIs(answer is not None, sure)

    def check_best(self, trial, told, fit):
        if not fit:
            self.check_impossible(trial, told, best_mark, told)
            return
        rows = []
        for mark in range(len(told.web.marks)):
            left = [trial.sorts([at for at in fit if at[mark] == sign]) for sign in (1, -1)]
            rows.append((max(map(len, left)), mark))
        self.assertEqual(best_mark(told), (min(rows)[1], min(rows)[0]) if rows else None)

    def test_a_mark_that_is_known_already(self):
        # Looked at, it parts nothing: all sorts are left.
        told = Told(PAIR, [Product([0], 1)])
        self.assertEqual(fitting(told), ((1, -1), (1, 1)))
        self.assertEqual(best_mark(told), (1, 1))
        self.assertEqual(best_mark(Told(PAIR, [Product([0], 1), Product([1], 1)])), (0, 1))
        self.assertEqual(best_mark(Told(EIGHT)), (0, 128))


class TestSpecialWebs(Asking):
    def test_no_marks(self):
        web = Web(["a"], [])
        told = Told(web)
        self.assertEqual((fitting(told), fitting_sorts(told), best_mark(told)), (((),), ((),), None))
        self.assertEqual(judged(told, IsMirrorlike()), Tried(0))
        self.assertEqual(judged(told, IsMirrorlike(False)), NeverTried(0))
        self.assertEqual(judged(told, IsOne([])), Tried(0))
        self.assertEqual(judged(told, Product([], 1)), Summed(()))
        self.assertEqual(judged(told, Product([], -1)), NeverSummed(()))
        self.assertEqual(fewest_sayings(told, IsOne([])), ())
        for saying in (IsMirrorlike(False), IsOne([], False), Product([], -1)):
            wrong = Told(web, [IsMirrorlike(), saying])
            self.assertEqual((fitting(wrong), fitting_sorts(wrong)), ((), ()))
            for call in (best_mark, lambda told: judged(told, IsMirrorlike()),
                         lambda told: fewest_sayings(told, IsMirrorlike())):
                self.assert_raises(Impossible(NoBody(1)), call, wrong)

    def test_products_alone(self):
        rng = random.Random(1311)
        for _ in range(60):
            asked = Product(rng.sample(range(8), rng.randint(0, 4)), rng.choice((1, -1)))
            setting = any_setting(rng, EIGHT)
            lots = [rng.sample(range(8), rng.randint(0, 4)) for _ in range(8)]
            sayings = []
            for lot in lots:
                sign = 1
                for mark in lot:
                    sign *= setting[mark]
                sayings.append(Product(lot, sign))
            told = Told(EIGHT, sayings)
            paper = judged(told, asked)
            self.assertEqual(type(paper) is Open, not is_summed(sayings, asked))
            self.assertIs(shows_judged(told, asked, paper), True)
            self.assertIn(setting, fitting(told))
            for word, number in (("one", 1), ("other", -1)):
                if type(paper) is Open:
                    product = 1
                    for mark in asked.lot:
                        product *= getattr(paper, word)[mark]
                    self.assertEqual(product, asked.sign * number)

    def test_told_twice(self):
        told = Told(PAIR, [Product([0], 1), Product([0], 1), IsMirrorlike(), IsMirrorlike()])
        self.assertIn(judged(told, Product([0], 1)).numbers, ((0,), (1,)))
        for numbers in ((0,), (1,)):
            self.assertIs(shows_judged(told, Product([0], 1), Summed(numbers)), True)
            self.assertIs(shows_judged(told, Product([0], -1), NeverSummed(numbers)), True)
        self.assertIs(shows_judged(told, Product([], 1), Summed((0, 1))), True)
        self.assertIs(shows_judged(told, Product([], 1), Summed((0, 2))), False)
        self.assertIs(shows_judged(told, Product([], 1), Summed((2, 3))), False)
        self.assertEqual(fewest_sayings(told, Product([0], 1)), (0,))
        self.assertEqual(fewest_sayings(told, Product([1], -1)), (0, 2))


class TestChecks(Asking):
    def test_bent_papers(self):
        rng, found = trials(1321, 30, 3)
        answers = []
        for trial in found:
            sayings = [any_saying(rng, trial.web) for _ in range(rng.randint(0, 3))]
            told = Told(trial.web, sayings)
            for asked in (any_saying(rng, trial.web), IsMirrorlike()):
                papers = [Summed(()), NeverSummed((0,)), Open(any_setting(rng, trial.web), any_setting(rng, trial.web))]
                if trial.fitting(sayings):
                    papers.append(judged(told, asked))
                    papers.append(judged(told, asked.contrary()))
                for paper in papers:
                    bent = list(bent_papers(paper))
                    for made in rng.sample(bent, min(40, len(bent))):
                        right = trial.is_right(sayings, asked, made)
                        self.assertIs(shows_judged(told, asked, made), right, made.parts)
                        answers.append(right)
        self.assertGreater(min(answers.count(True), answers.count(False)), 40)

    def test_trees_wherever_they_show_it(self):
        asked = Product([0, 1], -1)
        self.assertEqual(judged(PLAIN, asked), Summed((0, 1)))
        for tree in ((0, 0, (1, 2, 1)), (1, (0, 0, 2), 1), (0, (1, 0, 0), (1, 2, 1)), (1, (0, 0, 2), (0, 0, 1))):
            self.assertIs(shows_judged(PLAIN, asked, Tried(tree)), True, tree)
            self.assertIs(shows_judged(PLAIN, asked.contrary(), NeverTried(tree)), True, tree)
            self.assertIs(shows_judged(PLAIN, asked, NeverTried(tree)), False, tree)
            self.assertIs(shows_judged(PLAIN, asked.contrary(), Tried(tree)), False, tree)
        for tree in ((0, 0, (0, 2, 1)), (0, 1, (1, 2, 1)), (0, 0, 1), 0, 2, 3, -1, (0, 0, (1, 2)), (2, 0, 0),
                     (0, 0, (1, 2, 1), 1), (True, (0, 0, 2), 1), (0, False, (1, 2, 1)), (0, 0.0, (1, 2, 1)), None,
                     "0", (0, 0, (1, 2, 3)), (0, 0, (1, 2, None)), (-1, 0, 0)):
            self.assertIs(shows_judged(PLAIN, asked, Tried(tree)), False, tree)
        # What is no product is broken only where all marks are decided.
        self.assertIs(shows_judged(LIKE, IsMirrorlike(), Tried(1)), False)
        self.assertIs(shows_judged(LIKE, IsMirrorlike(), Tried((0, 1, 1))), False)
        both = (0, (1, 0, 1), (1, 1, 0))
        self.assertIs(shows_judged(LIKE, IsMirrorlike(), Tried(both)), True)
        self.assertIs(shows_judged(LIKE, IsMirrorlike(), Tried((1, (0, 0, 1), (0, 1, 0)))), True)

    def test_papers_of_what_nothing_fits(self):
        told = Told(PAIR, [Product([0], 1), Product([0], -1)])
        self.assert_raises(Impossible(NoBody((0, 0, 1))), judged, told, IsMirrorlike())
        # Sums and trees are right papers all the same: the check raises no Impossible.
        self.assertIs(shows_judged(told, Product([0], 1), Summed([0])), True)
        self.assertIs(shows_judged(told, Product([0], 1), NeverSummed([1])), True)
        self.assertIs(shows_judged(told, Product([], -1), Summed([0, 1])), True)
        self.assertIs(shows_judged(told, IsMirrorlike(), Tried([0, 0, 1])), True)
        self.assertIs(shows_judged(told, IsMirrorlike(), NeverTried([0, 0, 1])), True)
        self.assertIs(shows_judged(told, IsMirrorlike(), Open([1, 1], [1, -1])), False)
        self.assertIs(shows_no_body(told, NoBody([0, 0, 1])), True)
        self.assertIs(shows_no_body(told, NoBody((1, (0, 0, 1), (0, 0, 1)))), True)
        for tree in ((0, 1, 0), 0, (0, 0, 2), (1, 0, 1), ("0", 0, 1), (0, 0, True)):
            self.assertIs(shows_no_body(told, NoBody(tree)), False, tree)

    def test_bent_denials(self):
        rng, found = trials(1331, 40, 3)
        answers = []
        for trial in found:
            while True:
                sayings = [any_saying(rng, trial.web) for _ in range(rng.randint(2, 6))]
                if not trial.fitting(sayings):
                    break
            told = Told(trial.web, sayings)
            self.assertIs(shows_no_body(told, Tried(0)), False)
            with self.assertRaises(Impossible) as caught:
                judged(told, IsMirrorlike())
            bent = [NoBody(tree) for tree in bent_values(caught.exception.paper.tree)]
            for made in rng.sample(bent, min(40, len(bent))):
                right = trial.is_tree(made.tree, sayings)
                self.assertIs(shows_no_body(told, made), right, made.parts)
                answers.append(right)
        self.assertGreater(min(answers.count(True), answers.count(False)), 20)

    def test_any_value(self):
        asked = Product([0, 1], -1)
        right = [(PLAIN, asked, Summed((0, 1))), (PLAIN, asked.contrary(), NeverSummed((0, 1))),
                 (LIKE, IsMirrorlike(), Tried((0, (1, 0, 1), (1, 1, 0)))),
                 (LIKE, IsMirrorlike(False), NeverTried((0, (1, 0, 1), (1, 1, 0)))),
                 (LIKE, Product([0], 1), Open((1, -1), (-1, 1)))]
        for told, saying, paper in right:
            self.assertIs(shows_judged(told, saying, paper), True)
            made = type(paper)

            class Fake(made):
                pass

            base = Paper if paper else Denial
            for value in [*ODD_VALUES, *same_named(paper), Fake(*paper.parts), base(paper.word, *paper.parts), made,
                          told, saying, paper.parts]:
                self.assertIs(shows_judged(told, saying, value), False)
            for value in ODD_VALUES:
                for at in range(len(paper.parts)):
                    parts = list(paper.parts)
                    parts[at] = value
                    self.assertIs(shows_judged(told, saying, made(*parts)), False)
        wrong = Told(PAIR, [Product([], -1)])

        class FakeNoBody(NoBody):
            pass

        for value in [*ODD_VALUES, *same_named(NoBody(0)), FakeNoBody(0), Denial("nobody", 0), Paper("nobody", 0),
                      NoBody, Tried(0), NeverTried(0)]:
            self.assertIs(shows_no_body(wrong, value), False)
            right = type(value) is int and value == 0
            self.assertIs(shows_no_body(wrong, NoBody(value)), right)
        self.assertIs(shows_no_body(wrong, NoBody(0)), True)


def bent_papers(paper):
    """The paper, and those that come of it by a change in one place."""
    yield paper
    for at, part in enumerate(paper.parts):
        for bent in bent_values(part):
            parts = list(paper.parts)
            parts[at] = bent
            yield type(paper)(*parts)
    if len(paper.parts) == 2:
        yield type(paper)(*paper.parts[::-1])
    for made in (Summed, NeverSummed, Tried, NeverTried):
        if len(paper.parts) == 1:
            yield made(*paper.parts)


class TestErrors(Asking):
    def test_told_and_saying(self):
        for value in (None, PAIR, "a", 3, [IsMirrorlike()], IsMirrorlike(), Body(PAIR, [1, 1])):
            for call in ASKED:
                self.assert_raises(BadSaying("told"), call, value)
            for call in OF_A_SAYING:
                self.assert_raises(BadSaying("told"), call, value, None)
            self.assert_raises(BadSaying("told"), shows_no_body, value, None)
        wrong = Told(PAIR, [Product([], -1)])
        for call in OF_A_SAYING:
            for value in (*ODD_VALUES, "mirrorlike yes", PAIR, PLAIN):
                self.assert_raises(BadSaying("saying"), call, wrong, value)
            self.assert_raises(NoMark(2), call, wrong, Product([5, 2], 1))
            self.assert_raises(Misfit("marks"), call, wrong, IsOne([1]))

    def test_bounds(self):
        wrong = Product([], -1)
        asked, like = Product([0], 1), IsMirrorlike()
        # Of products alone no renamings are asked.
        for sayings in ([], [asked]):
            told = Told(FULL, sayings)
            self.assertEqual(len(fitting(told)), 128 if sayings else 256)
            self.assertEqual(judged(told, asked).word, "summed" if sayings else "open")
            self.assertEqual(fewest_sayings(told, asked), (0,) if sayings else None)
            self.assertIs(shows_judged(told, asked, Summed([0])), bool(sayings))
            for call in (fitting_sorts, best_mark):
                self.assert_raises(TooMany("renamings", 400), call, told)
            for call in OF_A_SAYING:
                self.assert_raises(TooMany("renamings", 400), call, told, like)
                self.assert_raises(TooMany("renamings", 400), call, told, IsOne([1] * 8))
        self.assertIs(shows_no_body(Told(FULL, [wrong]), NoBody(0)), True)
        # Behind them Impossible.
        told = Told(FULL, [wrong, like])
        for call in ASKED:
            self.assert_raises(TooMany("renamings", 400), call, told)
        for call in OF_A_SAYING:
            self.assert_raises(TooMany("renamings", 400), call, told, asked)
        self.assert_raises(TooMany("renamings", 400), shows_no_body, told, NoBody(0))
        self.assert_raises(TooMany("renamings", 400), shows_no_body, told, None)
        self.assertEqual(judged(Told(BUSH), like).word, "tried")
        self.assertEqual(best_mark(Told(BUSH)), (0, 1))

    def test_nothing_fits(self):
        for told in (Told(PAIR, [Product([], -1)]), Told(STAR, [IsMirrorlike(False)]),
                     Told(PAIR, [IsOne([1, 1]), IsMirrorlike()])):
            self.assertEqual((fitting(told), fitting_sorts(told)), ((), ()))
            for call, passed in ((judged, (told, Product([0], 1))), (fewest_sayings, (told, IsMirrorlike())),
                                 (best_mark, (told,))):
                with self.assertRaises(Impossible) as caught:
                    call(*passed)
                self.assertIs(shows_no_body(told, caught.exception.paper), True)
                with self.assertRaises(Impossible) as again:
                    call(*passed)
                self.assertEqual(again.exception.paper, caught.exception.paper)


class TestTimes(Asking):
    def test_eight_marks_and_eight_sayings(self):
        rng = random.Random(1341)
        begun = time.process_time()
        for web in (EIGHT, RING, cube(3), web_of(8, cube(3).ties, list(range(8)))):
            many = len(web.marks)
            setting = any_setting(rng, web)
            sayings = [IsMirrorlike(rng.random() < 0.5), IsOne(any_setting(rng, web), False),
                       *[Product(rng.sample(range(many), min(many, 3)), rng.choice((1, -1))) for _ in range(6)]]
            for told in (Told(web, sayings), Told(web, [IsOne(any_setting(rng, web), False)] * 8),
                         Told(web, [Product([], 1)] * 8), Told(web, [IsOne(setting)] + [IsMirrorlike(False)] * 7),
                         Told(web, [IsOne(setting)] * 8)):
                for saying in (IsMirrorlike(), IsOne(setting), Product([], 1)):
                    try:
                        paper = judged(told, saying)
                        self.assertIs(shows_judged(told, saying, paper), True)
                        fewest_sayings(told, saying)
                        best_mark(told)
                    except Impossible as error:
                        self.assertIs(shows_no_body(told, error.paper), True)
                        self.assertEqual(fitting(told), ())
        self.assertLess(time.process_time() - begun, 6)


if __name__ == "__main__":
    unittest.main()
