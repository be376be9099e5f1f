"""Frames: how the neighbours of one piece stand round it."""

from otherhand.checks import is_within
from otherhand.errors import BadFrame, NoName
from otherhand.given import is_row
from otherhand.renamings import all_put_together, backwards, chained

FEWEST_SEATS = 2
MOST_SEATS = 6
# For each name the seats, swings from which all come, and the mirror.
FRAMES = {
    "four": (4, ((0, 2, 3, 1), (1, 0, 3, 2)), (0, 1, 3, 2)),
    "square": (4, ((1, 2, 3, 0), (0, 3, 2, 1)), (0, 1, 2, 3)),
    "cap": (5, ((0, 1, 3, 4, 2), (1, 0, 2, 4, 3)), (1, 0, 2, 3, 4)),
    "pyramid": (5, ((0, 2, 3, 4, 1),), (0, 1, 4, 3, 2)),
    "six": (6, ((0, 2, 3, 4, 1, 5), (1, 5, 2, 0, 4, 3)), (5, 1, 2, 3, 4, 0)),
    "prism": (6, ((1, 2, 0, 4, 5, 3), (3, 5, 4, 0, 2, 1)), (3, 4, 5, 0, 1, 2)),
}


def need_swings(seats, swings):
    if not isinstance(swings, (list, tuple)):
        raise BadFrame("swings")
    if not all([is_row(row, seats) for row in swings]):
        raise BadFrame("swings")


def sources_of(seats, swings):
    """Some of these swings, from which all others of them come."""
    chosen = []
    made = {tuple(range(seats)): True}
    for row in swings:
        if tuple(row) not in made:
            chosen.append(tuple(row))
            made = {swing: True for swing in all_put_together(chosen, seats)}
    return chosen


def is_mirror(swings, mirror):
    """Whether a row of seats is a mirror with these swings."""
    known = {swing: True for swing in swings}
    if chained(mirror, mirror) not in known:
        return False
    back = backwards(mirror)
    return all([chained(chained(back, swing), mirror) in known for swing in swings])


class Frame:
    """Seats, the swings that leave them as they are, and a mirror."""

    def __init__(self, seats, swings, mirror):
        if not is_within(seats, FEWEST_SEATS, MOST_SEATS):
            raise BadFrame("seats")
        need_swings(seats, swings)
        self.seats = seats
        self.sources = sources_of(seats, swings)
        self.swings = tuple(sorted(all_put_together(self.sources, seats)))
        if not is_row(mirror, seats) or not is_mirror(self.swings, tuple(mirror)):
            raise BadFrame("mirror")
        self.mirror = tuple(mirror)

    def __eq__(self, other):
        return (
            isinstance(other, Frame)
            and self.seats == other.seats
            and self.swings == other.swings
            and self.mirror == other.mirror
        )


def need_frame(value):
    if not isinstance(value, Frame):
        raise BadFrame("frame")


def named_frame(name):
    """The frame with this name."""
    if not isinstance(name, str) or name not in FRAMES:
        raise NoName(name)
    seats, swings, mirror = FRAMES[name]
    return Frame(seats, swings, mirror)
