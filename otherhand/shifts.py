"""Shifts: how neighbours may change their seats in a frame, and what that joins."""

from otherhand.errors import Misfit
from otherhand.framed import (
    led_by_row,
    need_frame_and_seating,
    need_two_seatings,
    sorts_by_seating,
    swing_between,
)
from otherhand.given import need_row
from otherhand.orbits import parted_by
from otherhand.papers import Denial, Paper


class Shifts(Paper):
    """Swings, behind each of which the shift is done, and a last swing."""

    def __init__(self, steps, row):
        super().__init__("shifts", steps, row)
        self.steps = self.parts[0]
        self.row = self.parts[1]


class Shut(Denial):
    """Sorts, not the one that is asked for, which the shift does not leave."""

    def __init__(self, sorts):
        super().__init__("shut", sorts)
        self.sorts = self.parts[0]


def shifted(frame, seating, shift):
    """What the shift leads a seating to."""
    need_frame_and_seating(frame, seating, "seating")
    need_row(frame.seats, shift, "shift")
    return led_by_row(seating, shift)


def joined_framed(frame, neighbours, shift):
    """All sorts of the seatings of these neighbours, in lists of those that the shift joins."""
    need_frame_and_seating(frame, neighbours, "neighbours")
    need_row(frame.seats, shift, "shift")
    sorts = sorts_by_seating(frame, neighbours)
    steps = []
    for row in [*frame.sources, shift]:
        steps.append({seating: led_by_row(seating, row) for seating in sorts})
    lists = []
    for seatings in parted_by(steps, sorted(sorts)):
        lists.append(tuple([seating for seating in seatings if sorts[seating] == seating]))
    return tuple(lists)


def need_way(frame, one, other, shift):
    """Asks for two seatings of the same neighbours, and for a shift."""
    need_two_seatings(frame, one, other)
    need_row(frame.seats, shift, "shift")
    if sorted(one) != sorted(other):
        raise Misfit("neighbours")


def way_framed(frame, one, other, shift):
    """Shifts that lead one seating to the other, or the Shut."""
    need_way(frame, one, other, shift)
    sorts = sorts_by_seating(frame, one)
    first = tuple(one)
    steps = {sorts[first]: ()}
    reached = [first]
    while reached:
        seating = reached.pop(0)
        behind = steps[sorts[seating]]
        if sorts[seating] == sorts[tuple(other)]:
            return Shifts(behind, swing_between(frame, seating, tuple(other)))
        for swing in frame.swings:
            further = led_by_row(led_by_row(seating, swing), shift)
            if sorts[further] not in steps:
                steps[sorts[further]] = (*behind, swing)
                reached.append(further)
    return Shut(sorted(steps))
