import random
import unittest

from otherhand.bodies import Body
from otherhand.errors import BadBody, BadWeb, HandError, NoPiece, TooMany
from otherhand.joined import joined, taken_off
from otherhand.webs import Web
from tests.helping import NO_INTEGERS, Asking
from tests.oracle import any_body, any_row, neighbours, some_webs, web_of

DOT = Body(Web(["d"], []), [])
STAR = Body(Web(["c", "a", "b", "e"], [(0, 1), (0, 2), (0, 3)], [0]), [1])
PATH = Body(web_of(4, [(0, 1), (1, 2), (2, 3)], [], [(1, 2)]), [1])
SPLIT = Body(web_of(6, [(0, 1), (0, 2), (0, 3), (1, 4), (1, 5)], [], [(0, 1)]), [1])
CROSS = Body(web_of(5, [(0, 1), (0, 2), (0, 3), (0, 4)]), [])


class TestJoined(Asking):
    def test_hands_and_sides(self):
        self.assertEqual(joined(STAR, 0, DOT, 0).setting, (-1,))
        self.assertEqual(joined(DOT, 0, STAR, 0).setting, (1,))
        self.assertEqual(joined(STAR, 0, STAR, 0).setting, (-1, 1))
        self.assertEqual(joined(STAR, 1, STAR, 1).setting, (1, 1))
        self.assertEqual(joined(PATH, 1, DOT, 0).setting, (1,))
        self.assertEqual(joined(DOT, 0, PATH, 1).setting, (-1,))
        self.assertEqual(joined(DOT, 0, PATH, 0).setting, (1,))
        self.assertEqual(joined(PATH, 2, PATH, 1).setting, (1, -1))
        self.assertEqual(joined(STAR, 0, PATH, 1).setting, (-1, -1))
        self.assertEqual(joined(PATH, 1, STAR, 0).setting, (1, 1))

    def test_what_is_made(self):
        made = joined(STAR, 0, PATH, 3)
        self.assertEqual(str(made), "c- a b e a a a a : 0 1 / 0 2 / 0 3 / 0 7 / 4 5 / 5 + 6 / 6 7")
        self.assertEqual(joined(made, 4, STAR, 2).web.hubs, (0, 8))

    def test_errors_of_joined(self):
        for value in (None, STAR.web, "a", 3, True):
            self.assert_raises(BadBody("one"), joined, value, None, None, None)
            self.assert_raises(BadBody("other"), joined, STAR, 0, value, None)
        for value in (4, -1, *NO_INTEGERS):
            self.assert_raises(NoPiece(value), joined, STAR, value, None, None)
            self.assert_raises(NoPiece(value), joined, STAR, 0, STAR, value)
        self.assert_raises(BadWeb("room"), joined, CROSS, 0, DOT, 0)
        self.assert_raises(BadWeb("room"), joined, DOT, 0, CROSS, 0)
        self.assert_raises(BadWeb("room"), joined, SPLIT, 1, DOT, 0)
        self.assert_raises(BadWeb("room"), joined, DOT, 0, SPLIT, 0)
        full = joined(STAR, 0, DOT, 0)
        self.assert_raises(BadWeb("room"), joined, full, 0, DOT, 0)
        eight = Body(web_of(8, [(at, at + 1) for at in range(7)]), [])
        nine = Body(web_of(9, [(0, 1), (0, 2), (0, 3), (0, 4)] + [(at, at + 1) for at in range(4, 8)]), [])
        self.assertEqual(len(joined(eight, 0, eight, 0).web), 16)
        self.assert_raises(TooMany("pieces", 16), joined, eight, 0, nine, 1)
        self.assert_raises(BadWeb("room"), joined, eight, 0, nine, 0)

    def test_taken_off(self):
        four = joined(STAR, 0, DOT, 0)
        self.assertEqual([taken_off(four, at).setting for at in (1, 2, 3, 4)],
                         [(-1,), (1,), (-1,), (1,)])
        self.assertEqual(str(taken_off(STAR, 2)), "c a e : 0 1 / 0 2")
        self.assertEqual([taken_off(SPLIT, at).setting for at in (2, 3, 4, 5)],
                         [(-1,), (1,), (-1,), (1,)])
        two = Body(web_of(2, [(0, 1)], kinds=["a", "b"]), [])
        self.assertEqual([str(taken_off(two, at)) for at in (0, 1)], ["b :", "a :"])

    def test_errors_of_taken_off(self):
        for value in (None, STAR.web, "a", 3):
            self.assert_raises(BadBody("body"), taken_off, value, None)
        for value in (4, -1, *NO_INTEGERS):
            self.assert_raises(NoPiece(value), taken_off, STAR, value)
        self.assert_raises(BadWeb("end"), taken_off, STAR, 0)
        self.assert_raises(BadWeb("end"), taken_off, DOT, 0)
        self.assert_raises(BadWeb("end"), taken_off, PATH, 1)
        self.assert_raises(BadWeb("stiff"), taken_off, PATH, 0)
        self.assert_raises(BadWeb("stiff"), taken_off, PATH, 3)

    def test_joined_and_taken_off_again(self):
        rng = random.Random(11)
        done = 0
        for web in some_webs(12, 150):
            body = any_body(rng, web)
            piece = rng.randrange(len(web))
            try:
                longer, ahead = joined(body, piece, DOT, 0), joined(DOT, 0, body, piece)
            except BadWeb:
                continue
            self.assertEqual(taken_off(longer, len(web)), body)
            self.assertEqual(taken_off(ahead, 0), body)
            self.assertEqual(longer.mirrored(), joined(body.mirrored(), piece, DOT, 0))
            # To join in front is to join behind and to renumber.
            row = [len(web), *range(len(web))]
            self.assertEqual(longer.renumbered(row), ahead)
            done += 1
        self.assertGreater(done, 90)

    def test_joined_by_seats(self):
        """Read by seats: the bare one is filled, all else stays as it stands."""
        rng = random.Random(13)
        for web in some_webs(14, 80, stiff=0):
            body = any_body(rng, web)
            other = any_body(rng, web.renumbered(any_row(rng, len(web))))
            for piece in range(len(web)):
                try:
                    made = joined(body, piece, other, 0)
                except HandError:
                    continue
                for hub in web.hubs:
                    seats = [len(web) if hub == piece and seat is None else seat
                             for seat in web.seats(hub)]
                    now = list(made.web.seats(hub))
                    self.assertEqual(made.hand(hub), body.hand(hub) * sign_of(seats, now))
                for hub in other.web.hubs:
                    seats = [seat if seat is None else seat + len(web)
                             for seat in other.web.seats(hub)]
                    seats = [piece if hub == 0 and seat is None else seat for seat in seats]
                    now = list(made.web.seats(hub + len(web)))
                    self.assertEqual(made.hand(hub + len(web)),
                                     other.hand(hub) * sign_of(seats, now))
                self.assertIn(piece, neighbours(made.web, len(web)))


def sign_of(seats, now):
    """-1 if seats come to stand as they do now by an odd number of exchanges."""
    places = [now.index(seat) for seat in seats]
    pairs = [(a, b) for a in range(len(places)) for b in range(a) if places[b] > places[a]]
    return (-1) ** len(pairs)


if __name__ == "__main__":
    unittest.main()
