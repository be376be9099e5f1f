"""Frames, against doing all their rows of seats one behind another."""

import random
import time
import unittest
from itertools import permutations

from otherhand.errors import BadFrame, NoName
from otherhand.frames import Frame, named_frame
from tests.helping import NO_INTEGERS, ODD_VALUES, Agreeing, Asking

# Seats as points in space, so that swings and mirrors can be told by geometry alone.
SHAPES = {
    "four": [(1, 1, 1), (1, -1, -1), (-1, 1, -1), (-1, -1, 1)],
    "square": [(1, 0, 0), (0, 1, 0), (-1, 0, 0), (0, -1, 0)],
    "pyramid": [(0, 0, 1), (2, 0, 0), (0, 2, 0), (-2, 0, 0), (0, -2, 0)],
    "six": [(0, 0, 1), (1, 0, 0), (0, 1, 0), (-1, 0, 0), (0, -1, 0), (0, 0, -1)],
}
MANY = {"four": 12, "square": 8, "cap": 6, "pyramid": 4, "six": 24, "prism": 6}
MIRRORS = {"four": (0, 1, 3, 2), "square": (0, 1, 2, 3), "cap": (1, 0, 2, 3, 4), "pyramid": (0, 1, 4, 3, 2),
           "six": (5, 1, 2, 3, 4, 0), "prism": (3, 4, 5, 0, 1, 2)}


def behind(one, other):
    """What a row and then another one lead to: what stands at seat k comes to other[one[k]]."""
    return tuple(other[seat] for seat in one)


def back(row):
    return tuple(row.index(seat) for seat in range(len(row)))


def closed(seats, rows):
    """All rows that come of some, done one behind another, by adding until nothing comes."""
    found = {tuple(range(seats)), *map(tuple, rows)}
    while True:
        more = found | {behind(one, other) for one in found for other in found}
        if more == found:
            return sorted(found)
        found = more


def is_mirror(swings, row):
    if behind(row, row) not in swings:
        return False
    return all(behind(behind(back(row), swing), row) in swings for swing in swings)


def turns_in_space(points):
    """The rows of seats that a turn of the whole makes, and those that a mirror and a turn make."""
    steps = [lambda p: (p[1], p[2], p[0]), lambda p: (-p[1], p[0], p[2])]
    turns = {((1, 0, 0), (0, 1, 0), (0, 0, 1))}
    while True:
        more = turns | {tuple(step(at) for at in turn) for turn in turns for step in steps}
        if more == turns:
            break
        turns = more

    def moved(turn, point):
        return tuple(sum(point[k] * turn[k][axis] for k in range(3)) for axis in range(3))

    rows, mirrored = set(), set()
    for turn in turns:
        for sign, found in ((1, rows), (-1, mirrored)):
            images = [moved(turn, tuple(sign * at for at in point)) for point in points]
            if sorted(images) == sorted(points):
                found.add(tuple(points.index(image) for image in images))
    return rows, mirrored


class TestFrames(Asking):
    def test_the_six_with_names(self):
        for name, many in MANY.items():
            frame = named_frame(name)
            self.assertEqual((len(frame.swings), frame.mirror), (many, MIRRORS[name]))
            self.assertEqual(frame.seats, len(frame.mirror))
            self.assertEqual(list(frame.swings), closed(frame.seats, frame.swings))
            self.assertTrue(is_mirror(set(frame.swings), frame.mirror))
            self.assertEqual(frame, Frame(frame.seats, frame.swings, frame.mirror))
        for name, points in SHAPES.items():
            rows, mirrored = turns_in_space(points)
            self.assertEqual(named_frame(name).swings, tuple(sorted(rows)))
            self.assertIn(MIRRORS[name], mirrored)

    def test_cap_and_prism_told_seat_by_seat(self):
        cap, prism = named_frame("cap"), named_frame("prism")
        round_three = [(0, 1, 2), (1, 2, 0), (2, 0, 1)]
        over = [(0, 2, 1), (1, 0, 2), (2, 1, 0)]
        asked = [(0, 1, *(2 + at for at in row)) for row in round_three]
        asked += [(1, 0, *(2 + at for at in row)) for row in over]
        self.assertEqual(cap.swings, tuple(sorted(asked)))
        asked = [(*row, *(3 + at for at in row)) for row in round_three]
        asked += [(*(3 + at for at in row), *row) for row in over]
        self.assertEqual(prism.swings, tuple(sorted(asked)))

    def test_swings_come_of_rows(self):
        rng = random.Random(1601)
        sizes = set()
        for _ in range(120):
            seats = rng.randint(2, 6)
            rows = [tuple(rng.sample(range(seats), seats)) for _ in range(rng.randint(0, 2))]
            if rng.random() < 0.3:
                rows = [row for row in rows if row[-1] == seats - 1]
            swings = closed(seats, rows) if seats < 6 else None
            told = [rng.choice((list, tuple))(row) for row in rows + rows[:1]]
            rng.shuffle(told)
            # The plain row is a mirror of any frame.
            frame = Frame(seats, rng.choice((list, tuple))(told), list(range(seats)))
            if swings is not None:
                self.assertEqual(list(frame.swings), swings)
            self.assertEqual((frame.seats, frame.mirror), (seats, tuple(range(seats))))
            self.assertEqual(list(frame.swings), sorted(set(frame.swings)))
            self.assertEqual(Frame(seats, rng.sample(frame.swings, len(frame.swings)), frame.mirror), frame)
            sizes.add(len(frame.swings))
        self.assertGreater(len(sizes), 8)
        self.assertIn(720, sizes)

    def test_which_rows_are_a_mirror(self):
        rng = random.Random(1603)
        met = []
        frames = [(named_frame(name).seats, named_frame(name).swings) for name in MANY]
        for seats in (2, 3, 4, 5):
            for _ in range(6):
                rows = [tuple(rng.sample(range(seats), seats)) for _ in range(rng.randint(0, 2))]
                frames.append((seats, tuple(closed(seats, rows))))
        for seats, swings in frames:
            all_rows = list(permutations(range(seats)))
            for row in rng.sample(all_rows, min(len(all_rows), 60)) + [swings[-1]]:
                right = is_mirror(set(swings), row)
                if right:
                    self.assertEqual(Frame(seats, swings, list(row)).mirror, row)
                else:
                    self.assert_raises(BadFrame("mirror"), Frame, seats, swings, row)
                met.append(right)
        self.assertGreater(min(met.count(True), met.count(False)), 100)
        # Done twice it is no swing, though it keeps the swings; and the other way about.
        self.assert_raises(BadFrame("mirror"), Frame, 4, [], [1, 2, 3, 0])
        self.assert_raises(BadFrame("mirror"), Frame, 3, [[1, 0, 2]], [0, 2, 1])

    def test_what_is_kept(self):
        rows, mirror = [[1, 0, 2]], [1, 0, 2]
        frame = Frame(3, rows, mirror)
        rows[0][0] = 2
        rows.append([0, 2, 1])
        mirror[0] = 2
        self.assertEqual((frame.swings, frame.mirror), (((0, 1, 2), (1, 0, 2)), (1, 0, 2)))
        self.assertNotEqual(frame, Frame(3, [[1, 0, 2]], [0, 1, 2]))
        self.assertNotEqual(frame, Frame(3, [], [1, 0, 2]))
        self.assertNotEqual(Frame(3, [], [0, 1, 2]), Frame(2, [], [0, 1]))
        for value in (None, frame.swings, "four", 3):
            self.assertIs(frame == value, False)

    def test_errors(self):
        for value in (1, 0, -1, 7, 10 ** 30, *NO_INTEGERS):
            self.assert_raises(BadFrame("seats"), Frame, value, None, None)
        bad = [None, True, 3, "ab", "", {}, [None], [0], [[0]], [[0, 0]], [[0, 1], [1]], [[0, 1, 2]], [[0, 2]],
               [[0, True]], [[1.0, 0]], ["01"], [[1, 0], None], [1, 0], {(1, 0)}, {(1, 0): 1}, [{0, 1}]]
        for value in bad:
            self.assert_raises(BadFrame("swings"), Frame, 2, value, None)
        for value in [*ODD_VALUES, [0], [0, 0], [0, 1, 2], [0, 2], [False, True], [0.0, 1.0], "01", {0, 1}]:
            self.assert_raises(BadFrame("mirror"), Frame, 2, [], value)
        for value in [*ODD_VALUES, "Four", "four ", "fou", "five", b"four", Agreeing(), ("four",)]:
            self.assert_raises(NoName(value), named_frame, value)

    def test_short_times(self):
        begun = time.process_time()
        rows = list(permutations(range(6)))
        self.assertEqual(len(Frame(6, rows, rows[77]).swings), 720)
        self.assertEqual(len(Frame(6, rows * 20, rows[78]).swings), 720)
        self.assertLess(time.process_time() - begun, 3)


if __name__ == "__main__":
    unittest.main()
