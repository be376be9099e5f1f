"""Seatings of the neighbours of one piece in a frame, and their sorts."""

from itertools import permutations

from otherhand.checks import is_name
from otherhand.errors import BadFrame
from otherhand.frames import need_frame
from otherhand.papers import Denial, Paper


class Swung(Paper):
    """A swing that leads one seating to the other."""

    def __init__(self, row):
        super().__init__("swung", row)
        self.row = self.parts[0]


class MirrorSwung(Paper):
    """A swing that leads the mirror image of one seating to the other."""

    def __init__(self, row):
        super().__init__("mirrorswung", row)
        self.row = self.parts[0]


class Unswung(Denial):
    """For each swing a seat that is not as in the other; likewise of the mirror image."""

    def __init__(self, seats, mirrored):
        super().__init__("unswung", seats, mirrored)
        self.seats = self.parts[0]
        self.mirrored = self.parts[1]


def need_seating(frame, value, part):
    if not isinstance(value, (list, tuple)) or len(value) != frame.seats:
        raise BadFrame(part)
    if not all([is_name(kind) for kind in value]):
        raise BadFrame(part)


def need_frame_and_seating(frame, value, part):
    need_frame(frame)
    need_seating(frame, value, part)


def need_two_seatings(frame, one, other):
    need_frame(frame)
    need_seating(frame, one, "one")
    need_seating(frame, other, "other")


def led_by_row(seating, row):
    """What a row of seats leads a seating to."""
    found = list(seating)
    for seat, kind in zip(row, seating):
        found[seat] = kind
    return tuple(found)


def seatings_one_with(frame, seating):
    """What each swing leads a seating to, in the order of the swings."""
    return [led_by_row(seating, swing) for swing in frame.swings]


def sorts_by_seating(frame, neighbours):
    """For each seating of these neighbours its sort."""
    sorts = {}
    # Ascending, so the first seating of each sort is its least one.
    for seating in sorted({rest: True for rest in permutations(neighbours)}):
        if seating not in sorts:
            for its in seatings_one_with(frame, seating):
                sorts[its] = seating
    return sorts


def framed(frame, neighbours):
    """All sorts of the seatings of these neighbours, ascending."""
    need_frame_and_seating(frame, neighbours, "neighbours")
    sorts = sorts_by_seating(frame, neighbours)
    return tuple(sorted([seating for seating in sorts if sorts[seating] == seating]))


def many_framed(frame, neighbours):
    """How many sorts of seatings these neighbours have."""
    return len(framed(frame, neighbours))


def mirror_framed(frame, neighbours):
    """How many sorts of seatings of these neighbours are mirrorlike."""
    need_frame_and_seating(frame, neighbours, "neighbours")
    sorts = sorts_by_seating(frame, neighbours)
    own = [seating for seating in sorts if sorts[seating] == seating]
    return len([sort for sort in own if sorts[led_by_row(sort, frame.mirror)] == sort])


def sort_framed(frame, seating):
    """The sort of a seating: the least one that is one with it."""
    need_frame_and_seating(frame, seating, "seating")
    return min(seatings_one_with(frame, seating))


def mirrored_seating(frame, seating):
    """The mirror image of a seating."""
    need_frame_and_seating(frame, seating, "seating")
    return led_by_row(seating, frame.mirror)


def swing_between(frame, one, other):
    """The first swing that leads one seating to the other, None if none does."""
    for swing in frame.swings:
        if led_by_row(one, swing) == other:
            return swing
    return None


def unlike_seats(frame, one, other):
    """For each swing the first seat at which what it leads one to is not as other."""
    found = []
    for its in seatings_one_with(frame, one):
        found.append([kind == asked for kind, asked in zip(its, other)].index(False))
    return found


def same_framed(frame, one, other):
    """Whether two seatings are one, otherwise mirror images, otherwise neither."""
    need_two_seatings(frame, one, other)
    row = swing_between(frame, one, tuple(other))
    if row is not None:
        return Swung(row)
    image = led_by_row(one, frame.mirror)
    row = swing_between(frame, image, tuple(other))
    if row is not None:
        return MirrorSwung(row)
    return Unswung(unlike_seats(frame, one, other), unlike_seats(frame, image, other))
