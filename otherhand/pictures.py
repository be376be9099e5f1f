"""Pictures: hubs drawn on paper by the clock, with neighbours raised and lowered."""

from itertools import permutations

from otherhand.bodies import Body, need_body
from otherhand.checks import is_integer, is_numbers, is_odd, is_sign
from otherhand.errors import BadPicture
from otherhand.given import need_hub, need_two_neighbours
from otherhand.marks import hub_mark
from otherhand.texts import MOST_NEIGHBOURS
from otherhand.webs import need_web


def is_drawn_row(near, value):
    """Whether a value draws a hub with these neighbours: by the clock, raised, lowered."""
    if not isinstance(value, (list, tuple)) or len(value) != 3:
        return False
    clock, raised, lowered = value
    if not is_numbers(clock) or sorted(clock) != list(near):
        return False
    told = [piece for piece in (raised, lowered) if piece is not None]
    if not all([is_integer(piece) and piece in near for piece in told]):
        return False
    if len(near) < MOST_NEIGHBOURS:
        return len(told) == 1
    return len(told) == 1 or (len(told) == 2 and are_next(clock, raised, lowered))


def are_next(clock, one, other):
    """Whether two of four neighbours stand next to one another, by the clock."""
    apart = clock.index(one) - clock.index(other)
    return apart % 2 == 1


def begun_with(clock, piece):
    """The same neighbours by the clock, begun with this one."""
    at = clock.index(piece)
    return tuple(clock[at:]) + tuple(clock[:at])


def as_kept(row):
    """A row as a picture keeps it: begun with its least neighbour."""
    clock, raised, lowered = row
    return (begun_with(clock, min(clock)), raised, lowered)


def hand_read(row):
    """The hand that is read from a row.

    From a raised neighbour the others follow to the right, that is -1. With
    three the bare seat stands on the other side of the paper, ahead of all.
    """
    clock, raised, lowered = row
    hand = 1 if raised is None else -1
    if len(clock) < MOST_NEIGHBOURS:
        return hand if is_odd(clock) else -hand
    order = begun_with(clock, lowered if raised is None else raised)
    return -hand if is_odd(order) else hand


def row_exchanged(row, one, other):
    """The row in which two neighbours have changed places."""
    images = {piece: piece for piece in row[0]}
    images[one] = other
    images[other] = one
    clock = [images[piece] for piece in row[0]]
    return (clock, *[None if piece is None else images[piece] for piece in row[1:]])


def row_flipped(row):
    """The row in which raised and lowered are exchanged."""
    return (row[0], row[2], row[1])


def need_drawn_rows(web, rows):
    if not isinstance(rows, (list, tuple)) or len(rows) != len(web.hubs):
        raise BadPicture("rows")
    if not all([is_drawn_row(web.near[hub], row) for hub, row in zip(web.hubs, rows)]):
        raise BadPicture("rows")


def need_sides(web, sides):
    if not isinstance(sides, (list, tuple)) or len(sides) != len(web.stiff):
        raise BadPicture("sides")
    if not all([is_sign(side) for side in sides]):
        raise BadPicture("sides")


class Picture:
    """A web drawn on paper: a row for each hub, a side for each stiff tie."""

    def __init__(self, web, rows, sides):
        need_web(web, "web")
        need_drawn_rows(web, rows)
        need_sides(web, sides)
        self.web = web
        self.rows = tuple([as_kept(row) for row in rows])
        self.sides = tuple(sides)

    def __eq__(self, other):
        return (
            isinstance(other, Picture)
            and self.web == other.web
            and self.rows == other.rows
            and self.sides == other.sides
        )

    def body(self):
        """The body that is read."""
        return Body(self.web, [hand_read(row) for row in self.rows] + list(self.sides))

    def exchanged(self, hub, one, other):
        """The picture in which two neighbours of a hub have changed places."""
        need_two_neighbours(self.web, hub, one, other)
        rows = list(self.rows)
        at = hub_mark(self.web, hub)
        rows[at] = row_exchanged(rows[at], one, other)
        return Picture(self.web, rows, self.sides)

    def flipped(self, hub):
        """The picture in which raised and lowered are exchanged at a hub."""
        need_hub(self.web, hub)
        rows = list(self.rows)
        at = hub_mark(self.web, hub)
        rows[at] = row_flipped(rows[at])
        return Picture(self.web, rows, self.sides)

    def mirrored(self):
        """The picture in which raised and lowered are exchanged at all hubs."""
        return Picture(self.web, [row_flipped(row) for row in self.rows], self.sides)

    def from_behind(self):
        """The picture as it is seen from behind: the same body."""
        rows = [row_flipped((row[0][::-1], *row[1:])) for row in self.rows]
        return Picture(self.web, rows, self.sides)


def picture_of(body):
    """The picture with neighbours ascending, the least one raised or lowered."""
    need_body(body, "body")
    web = body.web
    rows = []
    for hub, hand in zip(web.hubs, body.setting):
        row = (web.near[hub], web.near[hub][0], None)
        rows.append(row if hand_read(row) == hand else row_flipped(row))
    return Picture(web, rows, body.setting[len(web.hubs):])


def rows_for(body, hub):
    """All rows of a hub that are read as its hand, ascending, None ahead of numbers."""
    need_body(body, "body")
    need_hub(body.web, hub)
    near = body.web.near[hub]
    others = list(near[1:])
    found = []
    for rest in permutations(others):
        for raised in (None, *near):
            for lowered in (None, *near):
                row = ((near[0], *rest), raised, lowered)
                if is_drawn_row(near, row) and hand_read(row) == body.hand(hub):
                    found.append(row)
    return tuple(found)
