"""Pictures, read once more by where their neighbours stand round the hub."""

import random
import unittest
from itertools import permutations, product

from otherhand.bodies import Body
from otherhand.errors import BadBody, BadPicture, BadWeb, NoMark, NoPiece, Twice
from otherhand.pictures import Picture, picture_of, rows_for
from otherhand.sameness import mirrorlike, same
from otherhand.webs import Web
from tests.helping import NO_INTEGERS, ODD_VALUES, Asking
from tests.oracle import any_body, any_row, neighbours, some_webs, web_of, web_with_all_hubs

FOUR = web_of(5, [(0, 1), (0, 2), (0, 3), (0, 4)], [0], kinds=list("cabde"))
THREE = web_of(4, [(0, 1), (0, 2), (0, 3)], [0], kinds=list("cabd"))
# Two hubs of three, and a stiff tie.
MIXED = Web(list("xhhaabcde"), [(0, 1), (1, 2), (1, 3), (0, 4), (4, 5), (2, 6), (2, 7), (2, 8)],
            [1, 2], [(0, 4)])
# By the clock: above, to the right, below, to the left; and three about a hub.
PLACES = {4: [(0, 2), (2, 0), (0, -2), (-2, 0)], 3: [(0, 2), (2, -1), (-2, -1)]}


def hand_seen(row):
    """1 if the other three, seen from the first seat, follow to the left; None if they quarrel."""
    clock, raised, lowered = row
    seats = {}
    for piece, (right, up) in zip(clock, PLACES[len(clock)]):
        seats[piece] = (right, up, (piece == raised) - (piece == lowered))
    order = sorted(seats)
    if len(clock) == 3:
        seats[None] = (0, 0, -1 if lowered is None else 1)
        order.insert(0, None)
    first, second, third, fourth = (seats[piece] for piece in order)
    one = [a - b for a, b in zip(third, second)]
    other = [a - b for a, b in zip(fourth, second)]
    to_first = [a - b for a, b in zip(first, second)]
    normal = [one[1] * other[2] - one[2] * other[1], one[2] * other[0] - one[0] * other[2],
              one[0] * other[1] - one[1] * other[0]]
    seen = sum(a * b for a, b in zip(normal, to_first))
    # Against the clock, seen from the first seat, is to the left.
    return (seen > 0) - (seen < 0)


def all_rows_of(near):
    """All rows of three parts that could be told of a hub, let or not."""
    return [(clock, raised, lowered) for clock in permutations(near)
            for raised in (None, *near) for lowered in (None, *near)]


def is_let(row):
    """Whether the document lets a row: as it is worded there."""
    clock, raised, lowered = row
    if len(clock) == 3:
        return (raised is None) != (lowered is None)
    if raised is None or lowered is None:
        return raised is not None or lowered is not None
    steps = (clock.index(raised) - clock.index(lowered)) % 4
    return raised != lowered and steps in (1, 3)


def any_picture(rng, web):
    rows = []
    for hub in web.hubs:
        near = neighbours(web, hub)
        rows.append(rng.choice([row for row in all_rows_of(near) if is_let(row)]))
    return Picture(web, rows, [rng.choice((1, -1)) for _ in web.stiff])


def some_pictures(seed, many):
    rng = random.Random(seed)
    return [any_picture(rng, web) for web in [MIXED, *some_webs(seed + 1, many, hubs=1, most=9)]
            if len(web.hubs) < 5]


class TestReading(Asking):
    def test_each_way_to_draw_a_hub(self):
        for web, many in ((FOUR, 96), (THREE, 12)):
            near = neighbours(web, 0)
            hands = {1: set(), -1: set()}
            for row in all_rows_of(near):
                if not is_let(row):
                    self.assert_raises(BadPicture("rows"), Picture, web, [row], [])
                    continue
                clock, raised, lowered = row
                at = clock.index(near[0])
                kept = (clock[at:] + clock[:at], raised, lowered)
                for told in (row, list(row), (list(clock), raised, lowered)):
                    picture = Picture(web, [told], [])
                    self.assertEqual(picture.rows, (kept,))
                    self.assertEqual(picture.body(), Body(web, [hand_seen(row)]))
                hands[hand_seen(row)].add(kept)
            self.assertEqual([len(hands[1]), len(hands[-1])], [many // 2, many // 2])

            def key(row):
                return (row[0], *(-1 if told is None else told for told in row[1:]))

            for hand in (1, -1):
                self.assertEqual(rows_for(Body(web, [hand]), 0), tuple(sorted(hands[hand], key=key)))

    def test_the_ones_that_are_not_let(self):
        bad = [
            ((1, 2, 3, 4), None, None), ((1, 2, 3, 4), 1, 1), ((1, 2, 3, 4), 1, 3),
            ((1, 2, 3, 4), 4, 2), ((1, 2, 3), 1, None), ((1, 2, 3, 4, 4), 1, None),
            ((1, 2, 3, 3), 1, None), ((0, 1, 2, 3), 1, None), ((1, 2, 3, 5), 1, None),
            ((1, 2, 3, 4), 5, None), ((1, 2, 3, 4), None, 0), ((1, 2, 3, 4), True, None),
            ((1, 2, 3, 4), None, True), ((1, 2, 3, 4), "1", None), ((1, 2, 3, 4), [1], None),
            ((True, 2, 3, 4), 2, None), ((1, 2, 3, 4), 1.0, None), ((1.0, 2, 3, 4), 2, None),
            ((1, 2, 3, 4), 1), ((1, 2, 3, 4), 1, None, None), ((1, 2, 3, 4),), (1, 2, 3, 4),
            ("1234", 1, None), (None, 1, None), ({1, 2, 3, 4}, 1, None), None, 3, "abc", {}, (), True,
            ((1, 2, 3, 4), (), None), ((1, 2, 3, 4), False, 1), ((), None, None),
        ]
        for row in bad:
            self.assert_raises(BadPicture("rows"), Picture, FOUR, [row], [])
            self.assert_raises(BadPicture("rows"), Picture, FOUR, [row], None)
        for row in (((1, 2, 3), None, None), ((1, 2, 3), 1, 2), ((1, 2, 3), 1, 1), ((1, 2, 3), 0, None),
                    ((1, 2, None), 1, None), ((None, 1, 2, 3), 1, None), ((1, 2, 3), None, 4)):
            self.assert_raises(BadPicture("rows"), Picture, THREE, [row], [])

    def test_raised_and_lowered_next_to_one_another_are_read_alike(self):
        for clock in permutations((1, 2, 3, 4)):
            for at in range(4):
                for to in ((at + 1) % 4, (at + 3) % 4):
                    both = Picture(FOUR, [(clock, clock[at], clock[to])], []).body()
                    self.assertEqual(Picture(FOUR, [(clock, clock[at], None)], []).body(), both)
                    self.assertEqual(Picture(FOUR, [(clock, None, clock[to])], []).body(), both)

    def test_several_hubs_and_sides(self):
        for picture in some_pictures(501, 60):
            web = picture.web
            hands = [hand_seen(row) for row in picture.rows]
            self.assertEqual(picture.body().setting, (*hands, *picture.sides))
            self.assertEqual(picture.body().web, web)
            again = Picture(web, [list(row) for row in picture.rows], list(picture.sides))
            self.assertEqual(again, picture)
            for row, hub in zip(picture.rows, web.hubs):
                self.assertEqual(row[0][0], min(neighbours(web, hub)))
        self.assertEqual(Picture(web_of(1, []), [], []).body(), Body(web_of(1, []), []))

    def test_equality(self):
        one = Picture(FOUR, [((1, 2, 3, 4), 1, None)], [])
        self.assertEqual(one, Picture(FOUR, ([[3, 4, 1, 2], 1, None],), ()))
        self.assertNotEqual(one, Picture(FOUR, [((1, 2, 3, 4), 1, 2)], []))
        self.assertNotEqual(one, Picture(FOUR, [((1, 2, 4, 3), 1, None)], []))
        self.assertNotEqual(one, Picture(FOUR.with_kind(0, "z"), [((1, 2, 3, 4), 1, None)], []))
        for other in (None, one.body(), one.rows, FOUR):
            self.assertIs(one == other, False)
        flat = web_of(4, [(0, 1), (1, 2), (2, 3)], [], [(1, 2)])
        self.assertNotEqual(Picture(flat, [], [1]), Picture(flat, [], [-1]))


class TestChanges(Asking):
    def test_exchanged(self):
        rng = random.Random(503)
        for picture in some_pictures(504, 50):
            for at, hub in enumerate(picture.web.hubs):
                one, other = rng.sample(neighbours(picture.web, hub), 2)
                found = picture.exchanged(hub, one, other)
                self.assertEqual(found.body(), picture.body().turned([at]))
                self.assertEqual(found.exchanged(hub, other, one), picture)
                clock, raised, lowered = picture.rows[at]
                images = {one: other, other: one}
                row = ([images.get(piece, piece) for piece in clock],
                       images.get(raised, raised), images.get(lowered, lowered))
                rows = list(picture.rows)
                rows[at] = row
                self.assertEqual(found, Picture(picture.web, rows, picture.sides))

    def test_flipped_mirrored_and_from_behind(self):
        for picture in some_pictures(505, 50):
            body = picture.body()
            for at, hub in enumerate(picture.web.hubs):
                found = picture.flipped(hub)
                self.assertEqual(found.body(), body.turned([at]))
                self.assertEqual(found.flipped(hub), picture)
                clock, raised, lowered = picture.rows[at]
                self.assertEqual(found.rows[at], (clock, lowered, raised))
                self.assertEqual(found.rows[:at] + found.rows[at + 1:],
                                 picture.rows[:at] + picture.rows[at + 1:])
            self.assertEqual(picture.mirrored().body(), body.mirrored())
            self.assertEqual(picture.mirrored().mirrored(), picture)
            behind = picture.from_behind()
            self.assertEqual(behind.body(), body)
            self.assertEqual(behind.from_behind(), picture)
            self.assertEqual(behind.sides, picture.sides)
            for row, seen in zip(picture.rows, behind.rows):
                self.assertEqual(seen, (row[0][:1] + row[0][:0:-1], row[2], row[1]))

    def test_picture_of(self):
        rng = random.Random(507)
        for web in [FOUR, THREE, MIXED, *some_webs(508, 40, hubs=1)]:
            body = any_body(rng, web)
            picture = picture_of(body)
            self.assertEqual(picture.body(), body)
            for row, hub in zip(picture.rows, web.hubs):
                near = tuple(neighbours(web, hub))
                self.assertIn(row, [(near, near[0], None), (near, None, near[0])])
            for hub in web.hubs:
                rows = rows_for(body, hub)
                self.assertEqual(len(rows), 48 if len(neighbours(web, hub)) == 4 else 6)
                for row in rows:
                    self.assertEqual(hand_seen(row), body.hand(hub))
                    self.assertEqual(row[0][0], min(row[0]))
                at = web.hubs.index(hub)
                self.assertIn(picture.rows[at], rows)

    def test_a_picture_numbered_anew_is_read_as_the_same_body(self):
        rng = random.Random(509)
        for picture in some_pictures(510, 40):
            row = any_row(rng, len(picture.web))
            back = {piece: at for at, piece in enumerate(row)}
            back[None] = None
            web = picture.web.renumbered(row)
            rows = {}
            for hub, (clock, raised, lowered) in zip(picture.web.hubs, picture.rows):
                rows[back[hub]] = ([back[piece] for piece in clock], back[raised], back[lowered])
            body = picture.body().renumbered(row)
            drawn = Picture(web, [rows[hub] for hub in web.hubs], body.setting[len(web.hubs):])
            self.assertEqual(drawn.body(), body)

    def test_exchanged_at_like_ends(self):
        # With two like ends all pictures are one body.
        web = web_of(5, [(0, 1), (0, 2), (0, 3), (0, 4)], [0], kinds=list("caabd"))
        bodies = [Picture(web, [row], []).body() for row in all_rows_of((1, 2, 3, 4)) if is_let(row)]
        self.assertEqual({same(bodies[0], body).word for body in bodies}, {"one"})
        self.assertIs(bool(mirrorlike(bodies[0])), True)


class TestErrors(Asking):
    def test_picture(self):
        good = [((1, 2, 3, 4), 1, None)]
        for value in (None, Body(FOUR, [1]), "a", 3, True):
            self.assert_raises(BadWeb("web"), Picture, value, None, None)
        for rows in [*ODD_VALUES, good * 2, {0: good[0]}, "x", good[0]]:
            self.assert_raises(BadPicture("rows"), Picture, FOUR, rows, None)
        for sides in [None, True, 1, "", [1], (-1,), {}, [None]]:
            self.assert_raises(BadPicture("sides"), Picture, FOUR, good, sides)
        flat = web_of(4, [(0, 1), (1, 2), (2, 3)], [], [(1, 2)])
        for sides in [None, True, 1, "1", [], [0], [2], [True], [1.0], ["1"], [[1]], [1, 1], {1}]:
            self.assert_raises(BadPicture("sides"), Picture, flat, [], sides)
        self.assert_raises(BadPicture("rows"), Picture, flat, [1], [0])
        self.assertEqual(Picture(flat, [], [-1]).body().setting, (-1,))

    def test_methods(self):
        picture = Picture(FOUR, [((1, 2, 3, 4), 1, None)], [])
        for value in (1, 5, -1, 10 ** 30, (0, 1), *NO_INTEGERS):
            self.assert_raises(NoMark(value), picture.exchanged, value, 9, 9)
            self.assert_raises(NoMark(value), picture.flipped, value)
            self.assert_raises(NoMark(value), rows_for, picture.body(), value)
        for value in (0, 5, -1, 10 ** 30, *NO_INTEGERS):
            self.assert_raises(NoPiece(value), picture.exchanged, 0, value, 9)
            self.assert_raises(NoPiece(value), picture.exchanged, 0, 2, value)
        self.assert_raises(Twice(2), picture.exchanged, 0, 2, 2)
        self.assert_raises(NoPiece(0), picture.exchanged, 0, 0, 0)
        for value in (None, FOUR, picture, "a", 3):
            self.assert_raises(BadBody("body"), picture_of, value)
            self.assert_raises(BadBody("body"), rows_for, value, None)
        hubs = web_with_all_hubs(6, [(0, 1), (0, 2), (0, 3), (1, 4), (1, 5)])
        two = picture_of(Body(hubs, [1, 1]))
        self.assert_raises(NoPiece(4), two.exchanged, 0, 4, 1)
        self.assert_raises(NoPiece(1), two.exchanged, 1, 4, 1)
        self.assert_raises(NoMark(2), two.flipped, 2)

    def test_each_pair_of_parts(self):
        near = (1, 2, 3, 4)
        for raised, lowered in product((None, *near), repeat=2):
            row = (near, raised, lowered)
            if is_let(row):
                self.assertIn(Picture(FOUR, [row], []).body().setting, ((1,), (-1,)))
            else:
                self.assert_raises(BadPicture("rows"), Picture, FOUR, [row], [])


if __name__ == "__main__":
    unittest.main()
