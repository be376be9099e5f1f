"""Seatings in frames and shifts, against listing all seatings and doing all swings."""

import random
import time
import unittest
from itertools import permutations

from otherhand.bodies import Body
from otherhand.check_frames import shows_framed, shows_way
from otherhand.counting import many_mirrorlike, many_sorts
from otherhand.errors import BadFrame, BadRow, Misfit
from otherhand.framed import (
    MirrorSwung, Swung, Unswung, framed, many_framed, mirror_framed, mirrored_seating, same_framed, sort_framed,
)
from otherhand.frames import Frame, named_frame
from otherhand.papers import Denial, Paper
from otherhand.sameness import same
from otherhand.shifts import Shifts, Shut, joined_framed, shifted, way_framed
from otherhand.webs import Web
from tests.helping import ODD_VALUES, Asking, bent_values, same_named
from tests.test_frames import MANY, behind, closed, is_mirror

FOUR, SQUARE, CAP, SIX, PRISM = (named_frame(name) for name in ("four", "square", "cap", "six", "prism"))
ABCD = ["a", "b", "c", "d"]
OF_SEATINGS = [(framed, "neighbours"), (many_framed, "neighbours"), (mirror_framed, "neighbours"),
               (sort_framed, "seating"), (mirrored_seating, "seating")]
OF_TWO = [same_framed, lambda frame, one, other: shows_framed(frame, one, other, None),
          lambda frame, one, other: way_framed(frame, one, other, None),
          lambda frame, one, other: shows_way(frame, one, other, None, None)]


def led(seating, row):
    """What a row leads a seating to: what stands at seat k comes to row[k]."""
    return tuple(seating[row.index(seat)] for seat in range(len(row)))


def any_frame(rng, most=5):
    """A frame with a name, or one that comes of rows by chance, with a mirror by chance."""
    if rng.random() < 0.4:
        return named_frame(rng.choice([name for name in MANY if named_frame(name).seats <= most]))
    seats = rng.randint(2, most)
    rows = [tuple(rng.sample(range(seats), seats)) for _ in range(rng.randint(0, 2))]
    rows = [behind(row, row) if rng.random() < 0.6 else row for row in rows]
    swings = closed(seats, rows)
    mirrors = [row for row in permutations(range(seats)) if is_mirror(set(swings), row)]
    return Frame(seats, rows, rng.choice(mirrors))


def any_neighbours(rng, seats):
    kinds = rng.choice(("a", "ab", "abc", "abcdef"))
    if kinds == "abcdef":
        found = list(kinds[:seats])
    else:
        found = [rng.choice(kinds) for _ in range(seats)]
    rng.shuffle(found)
    return rng.choice((list, tuple))(found)


def shuffled(rng, neighbours):
    return rng.choice((list, tuple))(rng.sample(list(neighbours), len(neighbours)))


class Listing:
    """All seatings of some neighbours, in sorts, by doing all swings."""

    def __init__(self, frame, neighbours):
        self.frame = frame
        self.sort = {}
        for seating in sorted(set(permutations(neighbours))):
            self.sort[seating] = min(led(seating, swing) for swing in frame.swings)
        self.sorts = sorted(set(self.sort.values()))

    def reached(self, sort, shift):
        """The sorts that the shift joins with one, going step by step."""
        found, left = {sort}, [sort]
        while left:
            at = left.pop()
            for seating, its in self.sort.items():
                if its == at and self.sort[led(seating, shift)] not in found:
                    found.add(self.sort[led(seating, shift)])
                    left.append(self.sort[led(seating, shift)])
        return found


def is_right(frame, one, other, paper):
    """Whether a paper of same_framed is right, by the words of the document."""
    image = led(one, frame.mirror)
    if type(paper) in (Swung, MirrorSwung):
        row = paper.row
        if repr(row) not in map(repr, frame.swings):
            return False
        return led(one if type(paper) is Swung else image, row) == tuple(other)
    if type(paper) is not Unswung:
        return False
    for start, seats in ((tuple(one), paper.seats), (image, paper.mirrored)):
        if not isinstance(seats, tuple) or len(seats) != len(frame.swings):
            return False
        for seat, swing in zip(seats, frame.swings):
            if type(seat) is not int or not 0 <= seat < frame.seats or led(start, swing)[seat] == other[seat]:
                return False
    return True


def is_right_way(frame, one, other, shift, paper):
    """Whether a paper of way_framed is right, by the words of the document."""
    if type(paper) is Shifts:
        if not isinstance(paper.steps, tuple):
            return False
        at = tuple(one)
        for step in paper.steps:
            if repr(step) not in map(repr, frame.swings):
                return False
            at = led(led(at, step), shift)
        return repr(paper.row) in map(repr, frame.swings) and led(at, paper.row) == tuple(other)
    if type(paper) is not Shut or not isinstance(paper.sorts, tuple):
        return False
    for sort in paper.sorts:
        if not isinstance(sort, tuple) or len(sort) != frame.seats:
            return False
        if not all(isinstance(kind, str) and kind.isalnum() and kind[0].isalpha() and kind.islower() for kind in sort):
            return False
        if min(led(sort, swing) for swing in frame.swings) != sort:
            return False
    if list(paper.sorts) != sorted(set(paper.sorts)):
        return False
    ends = [min(led(at, swing) for swing in frame.swings) for at in (one, other)]
    if ends[0] not in paper.sorts or ends[1] in paper.sorts:
        return False
    return all(min(led(led(led(sort, swing), shift), further) for further in frame.swings) in paper.sorts
               for sort in paper.sorts for swing in frame.swings)


class TestFramed(Asking):
    def test_against_listing(self):
        rng = random.Random(1611)
        for _ in range(100):
            frame = any_frame(rng)
            neighbours = any_neighbours(rng, frame.seats)
            listing = Listing(frame, neighbours)
            self.assertEqual(framed(frame, neighbours), tuple(listing.sorts))
            self.assertEqual(many_framed(frame, shuffled(rng, neighbours)), len(listing.sorts))
            own = [sort for sort in listing.sorts if listing.sort[led(sort, frame.mirror)] == sort]
            self.assertEqual(mirror_framed(frame, shuffled(rng, neighbours)), len(own))
            for _ in range(4):
                seating = shuffled(rng, neighbours)
                self.assertEqual(sort_framed(frame, seating), listing.sort[tuple(seating)])
                image = mirrored_seating(frame, seating)
                self.assertEqual(image, led(seating, frame.mirror))
                self.assertIn(sort_framed(frame, mirrored_seating(frame, image)), {listing.sort[tuple(seating)]})

    def test_means(self):
        # As many sorts as the mean of how many seatings a swing leaves, the mirror and a swing leave.
        rng = random.Random(1613)
        for name in MANY:
            frame = named_frame(name)
            for neighbours in ("abcdef"[:frame.seats], "aabbcc"[:frame.seats], "aaabbb"[:frame.seats], "a" * 6):
                neighbours = neighbours[:frame.seats]
                seatings = set(permutations(neighbours))
                left = sum(led(at, swing) == at for at in seatings for swing in frame.swings)
                mirrored = sum(led(led(at, frame.mirror), swing) == at for at in seatings for swing in frame.swings)
                told = shuffled(rng, neighbours)
                self.assertEqual(many_framed(frame, told) * len(frame.swings), left)
                self.assertEqual(mirror_framed(frame, told) * len(frame.swings), mirrored)
        self.assertEqual([many_framed(named_frame(name), list("abcdef"[:named_frame(name).seats])) for name in MANY],
                         [2, 3, 20, 30, 30, 120])

    def test_same_framed(self):
        rng = random.Random(1615)
        words = []
        for _ in range(250):
            frame = any_frame(rng)
            one = any_neighbours(rng, frame.seats)
            other = shuffled(rng, one) if rng.random() < 0.8 else any_neighbours(rng, frame.seats)
            if rng.random() < 0.3:
                other = led(led(one, frame.mirror), rng.choice(frame.swings))
            paper = same_framed(frame, one, other)
            self.assertTrue(is_right(frame, one, other, paper))
            self.assertIs(shows_framed(frame, one, other, paper), True)
            self.assertEqual(paper, same_framed(frame, tuple(one), list(other)))
            is_one = any(led(one, swing) == tuple(other) for swing in frame.swings)
            image = led(one, frame.mirror)
            is_image = any(led(image, swing) == tuple(other) for swing in frame.swings)
            self.assertIs(type(paper), Swung if is_one else MirrorSwung if is_image else Unswung)
            self.assertIs(bool(paper), is_one or is_image)
            words.append(paper.word)
            if is_one and is_image:
                row = next(swing for swing in frame.swings if led(image, swing) == tuple(other))
                self.assertIs(shows_framed(frame, one, other, MirrorSwung(list(row))), True)
                words.append("both")
        for word in ("swung", "mirrorswung", "unswung", "both"):
            self.assertGreater(words.count(word), 15, word)

    def test_a_hub_of_four_and_of_three(self):
        for neighbours in ("abcd", "aabc", "aabb", "aaab", "aaaa", "abbc"):
            web = Web(["h", *neighbours], [(0, 1), (0, 2), (0, 3), (0, 4)], [0])
            self.assertEqual(many_framed(FOUR, list(neighbours)), many_sorts(web))
            self.assertEqual(mirror_framed(FOUR, list(neighbours)), many_mirrorlike(web))
        for neighbours in ("abc", "aab", "aaa"):
            # The bare seat is as a neighbour of a further kind.
            web = Web(["h", *neighbours], [(0, 1), (0, 2), (0, 3)], [0])
            self.assertEqual(many_framed(FOUR, ["bare", *neighbours]), many_sorts(web))
            self.assertEqual(mirror_framed(FOUR, ["bare", *neighbours]), many_mirrorlike(web))
        words = {"swung": "one", "mirrorswung": "mirrorof", "unswung": "neither"}
        for one in permutations("aabc"):
            for other in permutations("abcd"):
                for second in (other, one[::-1]):
                    bodies = [Body(Web(["h", *seating], [(0, 1), (0, 2), (0, 3), (0, 4)], [0]), [1])
                              for seating in (one, second)]
                    self.assertEqual(words[same_framed(FOUR, one, second).word], same(*bodies).word)

    def test_errors(self):
        for value in (None, "four", 4, FOUR.swings, *ODD_VALUES):
            for call, _ in OF_SEATINGS:
                self.assert_raises(BadFrame("frame"), call, value, None)
            for call in OF_TWO:
                self.assert_raises(BadFrame("frame"), call, value, None, None)
            self.assert_raises(BadFrame("frame"), shifted, value, None, None)
            self.assert_raises(BadFrame("frame"), joined_framed, value, None, None)
        bad = [*ODD_VALUES, ["a", "b", "c"], ["a", "b", "c", "d", "e"], ["a", "b", "c", "D"], ["a", "b", "c", ""],
               ["a", "b", "c", 1], ["a", "b", "c", None], "abcd", {"a", "b", "c", "d"}, dict.fromkeys("abcd"),
               ["a", "b", "c", "1d"], ["a", "b", "c", "abcdefghijklm"], ["a", "b", ["c"], "d"]]
        for value in bad:
            for call, part in OF_SEATINGS:
                self.assert_raises(BadFrame(part), call, FOUR, value)
            for call in OF_TWO:
                self.assert_raises(BadFrame("one"), call, FOUR, value, None)
                self.assert_raises(BadFrame("other"), call, FOUR, ABCD, value)
            self.assert_raises(BadFrame("seating"), shifted, FOUR, value, None)
            self.assert_raises(BadFrame("neighbours"), joined_framed, FOUR, value, None)
        for value in [*ODD_VALUES, [0, 1, 2], [0, 1, 2, 3, 4], [0, 1, 2, 2], [0, 1, 2, True], [0, 1, 2, 4], "0123"]:
            self.assert_raises(BadRow("shift"), shifted, FOUR, ABCD, value)
            self.assert_raises(BadRow("shift"), joined_framed, FOUR, ABCD, value)
            for other in (ABCD, list("aaaa")):
                self.assert_raises(BadRow("shift"), way_framed, FOUR, ABCD, other, value)
                self.assert_raises(BadRow("shift"), shows_way, FOUR, ABCD, other, value, None)
        for other in ("abce", "aabc", "aaaa"):
            self.assert_raises(Misfit("neighbours"), way_framed, FOUR, ABCD, list(other), [0, 1, 2, 3])
            self.assert_raises(Misfit("neighbours"), shows_way, FOUR, ABCD, list(other), [0, 1, 2, 3], None)
        self.assertEqual(same_framed(FOUR, ABCD, list("abce")).word, "unswung")


class TestShifts(Asking):
    def test_against_going_step_by_step(self):
        rng = random.Random(1621)
        words = []
        for _ in range(120):
            frame = any_frame(rng)
            neighbours = any_neighbours(rng, frame.seats)
            shift = rng.sample(range(frame.seats), frame.seats)
            if rng.random() < 0.3:
                shift = rng.choice((frame.swings[-1], frame.mirror, tuple(range(frame.seats))))
            listing = Listing(frame, neighbours)
            seating = shuffled(rng, neighbours)
            self.assertEqual(shifted(frame, seating, shift), led(seating, tuple(shift)))
            lists = []
            for sort in listing.sorts:
                found = tuple(sorted(listing.reached(sort, tuple(shift))))
                if found not in lists:
                    lists.append(found)
            self.assertEqual(joined_framed(frame, shuffled(rng, neighbours), shift), tuple(lists))
            for _ in range(3):
                one, other = shuffled(rng, neighbours), shuffled(rng, neighbours)
                paper = way_framed(frame, one, other, shift)
                self.assertEqual(paper, way_framed(frame, tuple(one), list(other), list(shift)))
                self.assertTrue(is_right_way(frame, one, other, tuple(shift), paper))
                self.assertIs(shows_way(frame, one, other, shift, paper), True)
                reached = listing.reached(listing.sort[tuple(one)], tuple(shift))
                is_reached = listing.sort[tuple(other)] in reached
                self.assertIs(type(paper), Shifts if is_reached else Shut)
                words.append((paper.word, len(paper.steps) if is_reached else len(paper.sorts)))
        for asked in (("shifts", 0), ("shifts", 1), ("shifts", 2), ("shut", 1), ("shut", 2)):
            self.assertGreater(words.count(asked), 4, asked)

    def test_swings_mirrors_and_the_plain_row(self):
        for frame in (FOUR, SQUARE, CAP):
            neighbours = list("abcde"[:frame.seats])
            alone = tuple((sort,) for sort in framed(frame, neighbours))
            for swing in frame.swings:
                self.assertEqual(joined_framed(frame, neighbours, swing), alone)
            pairs = joined_framed(frame, neighbours, frame.mirror)
            self.assertEqual(sorted(sort for pair in pairs for sort in pair), sorted(framed(frame, neighbours)))
            for pair in pairs:
                self.assertEqual({sort_framed(frame, mirrored_seating(frame, sort)) for sort in pair}, set(pair))
        self.assertEqual(way_framed(FOUR, ABCD, ABCD, [0, 1, 2, 3]), Shifts((), (0, 1, 2, 3)))
        self.assertEqual(way_framed(FOUR, ABCD, list("abdc"), [1, 2, 0, 3]), Shut([ABCD]))


class TestChecks(Asking):
    def test_bent_papers(self):
        rng = random.Random(1631)
        answers = []
        for _ in range(60):
            frame = any_frame(rng, 4)
            one = any_neighbours(rng, frame.seats)
            other = shuffled(rng, one)
            for paper in (same_framed(frame, one, other), Swung(rng.choice(frame.swings)),
                          MirrorSwung(rng.choice(frame.swings))):
                for made in bent_papers(rng, paper):
                    right = is_right(frame, one, other, made)
                    self.assertIs(shows_framed(frame, one, other, made), right, made.parts)
                    answers.append(right)
        self.assertGreater(min(answers.count(True), answers.count(False)), 60)

    def test_any_unlike_seats(self):
        one, other = ABCD, list("acbd")
        bare = Frame(4, [], [0, 1, 2, 3])
        for seats in range(-2, 6):
            for mirrored in range(-2, 6):
                right = seats in (1, 2) and mirrored in (1, 2)
                self.assertIs(shows_framed(bare, one, other, Unswung([seats], [mirrored])), right)
        for seats in ([], [1, 1], [True], [1.0], ["1"], [None], 1, None, "1", [[1]]):
            self.assertIs(shows_framed(bare, one, other, Unswung(seats, [1])), False)
            self.assertIs(shows_framed(bare, one, other, Unswung([1], seats)), False)

    def test_bent_ways(self):
        rng = random.Random(1633)
        answers = []
        for _ in range(100):
            frame = any_frame(rng, 4)
            one = any_neighbours(rng, frame.seats)
            other, shift = shuffled(rng, one), tuple(rng.sample(range(frame.seats), frame.seats))
            steps = [rng.choice(frame.swings) for _ in range(rng.randint(0, 3))]
            for paper in (way_framed(frame, one, other, shift), Shifts(steps, rng.choice(frame.swings)),
                          Shut(framed(frame, one)[:2])):
                for made in bent_papers(rng, paper):
                    right = is_right_way(frame, one, other, shift, made)
                    self.assertIs(shows_way(frame, one, other, shift, made), right, made.parts)
                    answers.append((made.word, right))
        for word in ("shifts", "shut"):
            self.assertGreater(answers.count((word, True)), 20)
            self.assertGreater(answers.count((word, False)), 100)

    def test_any_steps_and_sorts(self):
        one, other, shift = ABCD, list("acbd"), [1, 0, 2, 3]
        paper = way_framed(SQUARE, one, other, shift)
        again = [SQUARE.swings[0]] * 2
        self.assertIs(shows_way(SQUARE, one, other, shift, Shifts([*again, *paper.steps], paper.row)), True)
        self.assertIs(shows_way(SQUARE, one, other, shift, Shifts([*again * 20000, *paper.steps], paper.row)), True)
        self.assertIs(shows_way(SQUARE, one, other, shift, Shifts([*again[1:], *paper.steps], paper.row)), False)
        shut = way_framed(SQUARE, one, other, [2, 1, 0, 3])
        self.assertEqual(shut, Shut([ABCD]))
        # Sorts of other neighbours may be among them, if the shift does not leave them either.
        further = [list("aaaa"), *framed(SQUARE, list("xxyy"))]
        for sorts in ([ABCD, list("aaaa")], [ABCD, list("abdc")], [ABCD, *further], [ABCD, list("abdc"), *further]):
            told = sorted(map(list, sorts))
            self.assertIs(shows_way(SQUARE, one, other, [2, 1, 0, 3], Shut(told)), True, told)
            self.assertIs(shows_way(SQUARE, one, other, [2, 1, 0, 3], Shut(told[::-1])), False, told)
            self.assertIs(shows_way(SQUARE, one, other, [2, 1, 0, 3], Shut([*told, told[-1]])), False, told)
        for sorts in ([], [list("aaaa")], [list("abdc")], [ABCD, list("acbd")], [list("bcda")],
                      [ABCD, list("bcda")], [ABCD, list("xyxy")[::-1]], [ABCD, list("aaaaa")], [ABCD, list("aaa")],
                      [ABCD, list("AAAA")], [list("aaaA"), ABCD], [ABCD, "aaaa"], [ABCD, ["a", "a", "a", 1]],
                      "abcd", ABCD, None, [None, ABCD]):
            self.assertIs(shows_way(SQUARE, one, other, [2, 1, 0, 3], Shut(sorts)), False, sorts)
        # A sort that the shift leaves for one that is not told.
        self.assertIs(shows_way(FOUR, one, one[:2] + one[:1:-1], [0, 1, 3, 2], Shut([ABCD])), False)
        xxyy = framed(SQUARE, list("xxyy"))
        self.assertEqual(len(xxyy), 2)
        self.assertIs(shows_way(SQUARE, one, other, [2, 1, 0, 3], Shut([ABCD, xxyy[0]])), True)
        self.assertIs(shows_way(SQUARE, list("xxyy"), list("xyxy"), [1, 0, 2, 3], Shut([list("xxyy")])), False)

    def test_any_value(self):
        right = [(list("badc"), Swung((1, 0, 3, 2))), (list("abdc"), MirrorSwung((0, 1, 2, 3))),
                 (list("abce"), same_framed(FOUR, ABCD, list("abce")))]
        for other, paper in right:
            self.check_any_value(paper, lambda value: shows_framed(FOUR, ABCD, other, value))
            for wrong in (Shifts((), (1, 0, 3, 2)), Shut([ABCD])):
                self.assertIs(shows_framed(FOUR, ABCD, other, wrong), False)
        acbd = list("acbd")
        for shift, paper in (([1, 0, 2, 3], way_framed(SQUARE, ABCD, acbd, [1, 0, 2, 3])),
                             ([2, 1, 0, 3], Shut([ABCD]))):
            self.check_any_value(paper, lambda value: shows_way(SQUARE, ABCD, acbd, shift, value))
            for wrong in (Swung((0, 1, 2, 3)), same_framed(SQUARE, ABCD, acbd)):
                self.assertIs(shows_way(SQUARE, ABCD, acbd, shift, wrong), False)

    def check_any_value(self, paper, shows):
        made = type(paper)

        class Fake(made):
            pass

        base = Paper if paper else Denial
        self.assertIs(shows(paper), True)
        for value in [*ODD_VALUES, *same_named(paper), Fake(*paper.parts), base(paper.word, *paper.parts), made,
                      paper.parts, FOUR]:
            self.assertIs(shows(value), False)
        for value in ODD_VALUES:
            for at in range(len(paper.parts)):
                parts = list(paper.parts)
                parts[at] = value
                self.assertIs(shows(made(*parts)), False)

    def test_short_times(self):
        begun = time.process_time()
        full = Frame(6, [[1, 2, 3, 4, 5, 0], [1, 0, 2, 3, 4, 5]], [0, 1, 2, 3, 4, 5])
        even = Frame(6, [[1, 2, 0, 3, 4, 5], [0, 2, 3, 4, 5, 1]], [1, 0, 2, 3, 4, 5])
        bare = Frame(6, [], [1, 0, 2, 3, 4, 5])
        self.assertEqual((len(full.swings), len(even.swings), len(bare.swings)), (720, 360, 1))
        abcdef = list("abcdef")
        for frame in (full, even, bare, SIX, PRISM):
            self.assertEqual(many_framed(frame, abcdef) * len(frame.swings), 720)
            mirror_framed(frame, abcdef)
            for shift in ([1, 2, 3, 4, 5, 0], [1, 0, 2, 3, 4, 5], [0, 1, 2, 3, 4, 5]):
                lists = joined_framed(frame, abcdef, shift)
                self.assertEqual(sum(map(len, lists)) * len(frame.swings), 720)
                for other in (abcdef, abcdef[::-1], list("bacdef")):
                    paper = way_framed(frame, abcdef, other, shift)
                    self.assertIs(shows_way(frame, abcdef, other, shift, paper), True)
                    paper = same_framed(frame, abcdef, other)
                    self.assertIs(shows_framed(frame, abcdef, other, paper), True)
        self.assertLess(time.process_time() - begun, 8)


def bent_papers(rng, paper, most=25):
    """The paper, and some of those that come of it by a change in one place."""
    found = []
    for at, part in enumerate(paper.parts):
        for bent in bent_values(part):
            parts = list(paper.parts)
            parts[at] = bent
            found.append(type(paper)(*parts))
    if len(paper.parts) == 2:
        found.append(type(paper)(*paper.parts[::-1]))
    return [paper, *rng.sample(found, min(most, len(found)))]


if __name__ == "__main__":
    unittest.main()
