"""Windows of rows of signs, and rows that have them, against trials of all rows."""

import random
import time
import unittest
from itertools import combinations, product

from otherhand.check_chains import shows_chain
from otherhand.errors import BadBody, BadNumber, BadWindow, TooMany
from otherhand.papers import Denial, Paper
from otherhand.windows import ChainBy, NoChain, chain_by, windows
from tests.helping import NO_INTEGERS, ODD_VALUES, Agreeing, Asking, bent_values, same_named
from tests.test_chains import NO_ROWS

BOTH = [chain_by, lambda width, told: shows_chain(width, told, None)]


def counts_of(row, width):
    """The windows of a row, counted one by one."""
    found = {}
    for at in range(len(row) - width + 1):
        found[tuple(row[at:at + width])] = found.get(tuple(row[at:at + width]), 0) + 1
    return found


def any_row(rng, many):
    return tuple(rng.choice((1, -1)) for _ in range(many))


def is_ends(asked, words):
    by = [sum(many for window, many in asked.items() if window[:-1] == word)
          - sum(many for window, many in asked.items() if window[1:] == word) for word in words]
    return all(many > 0 for many in by) and sum(by) >= 2


def is_apart(asked, words):
    begun = [window[:-1] in words for window in asked]
    return any(begun) and not all(begun) and all((window[:-1] in words) == (window[1:] in words) for window in asked)


def is_right(asked, width, paper):
    """Whether a paper is right, by the words of the document."""
    if type(paper) is ChainBy:
        row = paper.setting
        return (isinstance(row, tuple) and all(type(sign) is int and sign in (1, -1) for sign in row)
                and len(row) >= width and counts_of(row, width) == asked)
    if type(paper) is not NoChain or type(paper.why) is not str or not isinstance(paper.words, tuple):
        return False
    for word in paper.words:
        if not isinstance(word, tuple) or len(word) != width - 1:
            return False
        if not all(type(sign) is int and sign in (1, -1) for sign in word):
            return False
    if list(paper.words) != sorted(set(paper.words)):
        return False
    if paper.why == "ends":
        return is_ends(asked, paper.words)
    return paper.why == "apart" and is_apart(asked, paper.words)


def told_windows(rng, asked):
    """The windows as a list of pairs, in any order, lists and tuples."""
    pairs = [rng.choice((tuple, list))((rng.choice((tuple, list))(window), many)) for window, many in asked.items()]
    rng.shuffle(pairs)
    return rng.choice((tuple, list))(pairs)


class TestWindows(Asking):
    def test_against_the_rows(self):
        rng = random.Random(1501)
        for many in [*range(1, 61), 60]:
            row = any_row(rng, many)
            for width in {1, many, rng.randint(1, many), min(3, many), min(2, many)}:
                found = windows(rng.choice((row, list(row))), width)
                self.assertEqual(dict(found), counts_of(row, width))
                self.assertEqual(list(found), sorted(found))
                self.assertEqual(sum(number for _, number in found), many - width + 1)
                self.assertTrue(all(isinstance(part, tuple) for part in (found, *found, found[0][0])))

    def test_errors(self):
        for value in NO_ROWS:
            self.assert_raises(BadBody("setting"), windows, value, None)
        self.assert_raises(TooMany("hubs", 60), windows, [1] * 61, None)
        self.assert_raises(TooMany("hubs", 60), windows, [1] * 61, 2)
        for value in (0, -1, 4, 10 ** 30, *NO_INTEGERS):
            self.assert_raises(BadNumber("width"), windows, [1, -1, 1], value)


class TestChainBy(Asking):
    def test_windows_of_rows(self):
        rng = random.Random(1503)
        for many in [*range(1, 61)] * 2 + [60] * 10:
            row = any_row(rng, many)
            for width in {1, 2, 3, 4, 5, many, many - 1, rng.randint(1, many)}:
                if 1 <= width <= many:
                    self.check(rng, counts_of(row, width), width, True)
        # Coming round to where they began.
        for row in ([1, 1, -1, -1, 1], [1] * 60, [1, -1] * 30, [-1, 1, 1] * 20):
            for width in (1, 2, 3, 4):
                self.check(rng, counts_of(row, width), width, True)

    def check(self, rng, asked, width, has_one):
        told = told_windows(rng, asked)
        paper = chain_by(width, told)
        self.assertIs(type(paper), ChainBy if has_one else NoChain)
        self.assertIs(bool(paper), has_one)
        self.assertTrue(is_right(asked, width, paper), (asked, paper.parts))
        self.assertEqual(paper, chain_by(width, told))
        self.assertIs(shows_chain(width, told, paper), True)
        return paper

    def test_against_a_trial_of_all_rows(self):
        rng = random.Random(1505)
        met = []
        for width, most in ((1, 5), (2, 5), (3, 4)):
            made = [counts_of(row, width) for many in range(width, width + most)
                    for row in product((1, -1), repeat=many)]
            all_windows = list(product((-1, 1), repeat=width))
            for numbers in product(range(most), repeat=len(all_windows)):
                if not 0 < sum(numbers) <= most or (width == 3 and rng.random() < 0.5):
                    continue
                asked = {window: many for window, many in zip(all_windows, numbers) if many}
                paper = self.check(rng, asked, width, asked in made)
                if not paper:
                    words = list(product((-1, 1), repeat=width - 1))
                    lots = [lot for size in range(len(words) + 1) for lot in combinations(words, size)]
                    is_by_ends = any(is_ends(asked, lot) for lot in lots)
                    self.assertEqual(paper.why, "ends" if is_by_ends else "apart")
                    for lot in lots:
                        for why, right in (("ends", is_ends(asked, lot)), ("apart", is_apart(asked, lot))):
                            told = told_windows(rng, asked)
                            self.assertIs(shows_chain(width, told, NoChain(why, lot)), right)
                            met.append((why, right, is_by_ends))
        for asked in (("ends", True, True), ("apart", True, False), ("apart", True, True)):
            self.assertGreater(met.count(asked), 10, asked)

    def test_windows_put_in_left_out_and_together(self):
        rng = random.Random(1507)
        words = []
        for _ in range(300):
            width = rng.randint(1, 6)
            row, other = any_row(rng, rng.randint(width, 25)), any_row(rng, rng.randint(width, 25))
            asked = counts_of(row, width)
            how = rng.randrange(3)
            if how == 0:
                window = any_row(rng, width)
                asked[window] = asked.get(window, 0) + 1
            elif how == 1:
                window = rng.choice(list(asked))
                asked[window] -= 1
                asked = {window: many for window, many in asked.items() if many}
            else:
                for window, many in counts_of(other, width).items():
                    asked[window] = asked.get(window, 0) + many
            if not asked:
                continue
            paper = chain_by(width, told_windows(rng, asked))
            self.assertTrue(is_right(asked, width, paper))
            self.assertIs(shows_chain(width, told_windows(rng, asked), paper), True)
            words.append(paper.word if paper else paper.why)
        for word in ("chainby", "ends", "apart"):
            self.assertGreater(words.count(word), 3, word)

    def test_the_empty_word(self):
        # Of windows of one sign all words are the empty one: each row of these signs has them.
        paper = chain_by(1, [((1,), 3), ((-1,), 2)])
        self.assertEqual(sorted(paper.setting), [-1, -1, 1, 1, 1])
        for row in ((1, 1, 1, -1, -1), (-1, 1, 1, -1, 1)):
            self.assertIs(shows_chain(1, [((1,), 3), ((-1,), 2)], ChainBy(row)), True)
        for why in ("ends", "apart"):
            for words in ((), ((),), ((), ())):
                self.assertIs(shows_chain(1, [((1,), 3), ((-1,), 2)], NoChain(why, words)), False)

    def test_errors(self):
        pair = ((1, -1), 1)
        for call in BOTH:
            for value in (0, -1, 61, 10 ** 30, *NO_INTEGERS):
                self.assert_raises(BadNumber("width"), call, value, None)
            bad = [*ODD_VALUES, [pair, None], [pair, pair], [pair, ([1, -1], 2)], [((1, -1), 0)], [((1, -1), -1)],
                   [((1, -1), True)], [((1, -1), "1")], [((1, -1),)], [((1, -1), 1, 1)], [((1,), 1)], [((1, 0), 1)],
                   [((1, -1, 1), 1)], [((1, True), 1)], [(None, 1)], [("11", 1)], {(1, -1): 1}, [pair, ((1, 2), 1)],
                   [({1: 1, -1: 1}, 1)], pair, "ab", [(1, (1, -1))], [((1, -1), 1.0)]]
            for value in bad:
                self.assert_raises(BadWindow("windows"), call, 2, value)
            self.assert_raises(BadWindow("windows"), call, 1, [((1, -1), 1)])
        for told in ([((1, -1), 60)], [((1, -1), 30), ((-1, 1), 30)], [((1, 1), 10 ** 30)], [((1, -1), 70)]):
            self.assert_raises(TooMany("hubs", 60), chain_by, 2, told)
        self.assert_raises(TooMany("hubs", 60), chain_by, 60, [((1,) * 60, 2)])
        self.assert_raises(TooMany("hubs", 60), chain_by, 1, [((1,), 61)])
        self.assertEqual(chain_by(2, [((1, 1), 59)]), ChainBy((1,) * 60))
        self.assertEqual(chain_by(60, [((1, -1) * 30, 1)]), ChainBy((1, -1) * 30))
        self.assertEqual(len(chain_by(1, [((1,), 30), ((-1,), 30)]).setting), 60)


class TestCheckChains(Asking):
    def test_bent_papers(self):
        rng = random.Random(1509)
        answers = []
        for _ in range(60):
            width = rng.randint(1, 4)
            asked = counts_of(any_row(rng, rng.randint(width, 9)), width)
            window = any_row(rng, width)
            asked[window] = asked.get(window, 0) + rng.randint(0, 2)
            asked = {window: many for window, many in asked.items() if many}
            told = told_windows(rng, asked)
            paper = chain_by(width, told)
            for at, part in enumerate(paper.parts):
                bent = bent_values(part)
                for value in rng.sample(bent, min(30, len(bent))):
                    parts = list(paper.parts)
                    parts[at] = value
                    made = type(paper)(*parts)
                    right = is_right(asked, width, made)
                    self.assertIs(shows_chain(width, told, made), right, (asked, made.parts))
                    answers.append(right)
        self.assertGreater(min(answers.count(True), answers.count(False)), 10)

    def test_apart_where_ends_holds_too(self):
        told = [((1, 1), 1), ((-1, -1), 1), ((-1, 1), 0 + 1)]
        self.assertEqual(chain_by(2, told), ChainBy((-1, -1, 1, 1)))
        told = [((1, 1, -1), 2), ((-1, -1, -1), 1)]
        self.assertEqual(chain_by(3, told), NoChain("ends", [[1, 1]]))
        for words in ([[-1, -1]], [[1, -1], [1, 1]], [[-1, -1], [-1, 1]], [[-1, 1], [1, -1], [1, 1]]):
            self.assertIs(shows_chain(3, told, NoChain("apart", words)), True, words)
        for words in ([[1, 1]], [[-1, 1]], [], [[-1, -1], [1, -1], [1, 1]], [[1, 1], [1, -1]], [[-1, -1], [-1, -1]],
                      [[-1]], [[-1, -1, -1]], [[-1, -1.0]], [[-1, -1], None], [-1, -1]):
            self.assertIs(shows_chain(3, told, NoChain("apart", words)), False, words)
        for words, right in (([[1, 1]], True), ([[-1, -1], [1, 1]], False), ([[1, -1], [1, 1]], False),
                             ([[1, 1], [1, 1]], False), ([], False)):
            self.assertIs(shows_chain(3, told, NoChain("ends", words)), right, words)

    def test_more_than_sixty_signs(self):
        # No section tells that a check raises TooMany.
        self.assertIs(shows_chain(1, [((1,), 61)], ChainBy([1] * 61)), True)
        self.assertIs(shows_chain(1, [((1,), 61)], ChainBy([1] * 60)), False)
        self.assertIs(shows_chain(2, [((1, -1), 30), ((-1, 1), 30)], ChainBy([1, -1] * 30 + [1])), True)
        self.assertIs(shows_chain(2, [((1, 1), 10 ** 30)], ChainBy([1] * 61)), False)
        self.assertIs(shows_chain(2, [((1, -1), 10 ** 30)], NoChain("ends", [[1]])), True)
        self.assertIs(shows_chain(2, [((1, 1), 10 ** 30), ((-1, -1), 1)], NoChain("apart", [[1]])), True)
        self.assertIs(shows_chain(2, [((1, 1), 10 ** 30)], NoChain("apart", [[1]])), False)

    def test_any_value(self):
        told, wrong = [((1, 1), 1), ((1, -1), 1)], [((1, 1), 1), ((-1, -1), 1)]
        row, words = (1, 1, -1), ((1,),)

        class FakeBy(ChainBy):
            pass

        class FakeNo(NoChain):
            pass

        papers = [Paper("chainby", row), Denial("nochain", "apart", words), ChainBy, NoChain, FakeBy(row),
                  FakeNo("apart", words), row, words, *same_named(ChainBy(row)), *same_named(NoChain("apart", words))]
        for value in [*ODD_VALUES, *papers]:
            self.assertIs(shows_chain(2, told, value), False)
            self.assertIs(shows_chain(2, wrong, value), False)
            self.assertIs(shows_chain(2, told, ChainBy(value)), value is row)
            self.assertIs(shows_chain(2, wrong, NoChain(value, words)), False)
            self.assertIs(shows_chain(2, wrong, NoChain("apart", value)), value is words)
        self.assertIs(shows_chain(2, wrong, NoChain("apart", words)), True)
        self.assertIs(shows_chain(2, wrong, NoChain(Agreeing(), words)), False)
        self.assertIs(shows_chain(2, [((1, -1), 2)], NoChain("ends", words)), True)
        self.assertIs(shows_chain(2, [((1, -1), 2)], NoChain(Agreeing(), words)), False)
        self.assertIs(shows_chain(2, wrong, NoChain("ends", words)), False)
        self.assertIs(shows_chain(2, told, ChainBy([1] * 100000)), False)

    def test_short_times(self):
        rng = random.Random(1511)
        begun = time.process_time()
        for _ in range(20):
            row = any_row(rng, 60)
            for width in (1, 2, 3, 5, 10, 30, 60):
                told = windows(row, width)
                self.assertIs(shows_chain(width, told, chain_by(width, told)), True)
        self.assertLess(time.process_time() - begun, 4)


if __name__ == "__main__":
    unittest.main()
