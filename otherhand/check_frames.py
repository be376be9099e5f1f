"""Checks of papers about seatings in frames."""

from otherhand.checks import are_ascending, is_name, is_numbers, is_within
from otherhand.framed import (
    MirrorSwung,
    Swung,
    Unswung,
    led_by_row,
    need_two_seatings,
    seatings_one_with,
)
from otherhand.papers import class_name
from otherhand.shifts import Shifts, Shut, need_way


def is_among(rows, value):
    """Whether any value is one of these rows of seats, the keys of a dict."""
    return isinstance(value, tuple) and is_numbers(value) and value in rows


def swings_by_row(frame):
    """A dict that has all swings of a frame as its keys."""
    return {swing: True for swing in frame.swings}


def leads_by(frame, one, other, row):
    """Whether any value is a swing that leads one seating to the other."""
    return is_among(swings_by_row(frame), row) and led_by_row(one, row) == tuple(other)


def are_unlike_seats(frame, one, other, seats):
    """Whether any value tells for each swing a seat where what it leads one to is not as other."""
    if not isinstance(seats, tuple) or len(seats) != len(frame.swings):
        return False
    for seat, its in zip(seats, seatings_one_with(frame, one)):
        if not is_within(seat, 0, frame.seats - 1) or its[seat] == other[seat]:
            return False
    return True


def shows_framed(frame, one, other, value):
    """Whether a value is a right Swung, MirrorSwung or Unswung of two seatings."""
    need_two_seatings(frame, one, other)
    image = led_by_row(one, frame.mirror)
    if isinstance(value, Swung) and class_name(value) == "Swung":
        return leads_by(frame, one, other, value.row)
    if isinstance(value, MirrorSwung) and class_name(value) == "MirrorSwung":
        return leads_by(frame, image, other, value.row)
    if isinstance(value, Unswung) and class_name(value) == "Unswung":
        if not are_unlike_seats(frame, one, other, value.seats):
            return False
        return are_unlike_seats(frame, image, other, value.mirrored)
    return False


def shows_way(frame, one, other, shift, value):
    """Whether a value is a right Shifts or Shut of two seatings."""
    need_way(frame, one, other, shift)
    if isinstance(value, Shifts) and class_name(value) == "Shifts":
        return leads_by_steps(frame, (one, other), shift, value)
    if isinstance(value, Shut) and class_name(value) == "Shut":
        return are_shut(frame, (tuple(one), tuple(other)), shift, value.sorts)
    return False


def leads_by_steps(frame, seatings, shift, paper):
    """Whether the steps and the row of a Shifts, any values, lead the first seating to the second."""
    rows = swings_by_row(frame)
    if not isinstance(paper.steps, tuple) or not all([is_among(rows, step) for step in paper.steps]):
        return False
    one, other = seatings
    for step in paper.steps:
        one = led_by_row(led_by_row(one, step), shift)
    return leads_by(frame, one, other, paper.row)


def is_seating(frame, value):
    """Whether a value is a tuple of a name for each seat."""
    if not isinstance(value, tuple) or len(value) != frame.seats:
        return False
    return all([is_name(kind) for kind in value])


def are_shut(frame, seatings, shift, sorts):
    """Whether any value tells sorts which the shift does not leave.

    The sort of the first seating must be among them, that of the second one not.
    """
    if not isinstance(sorts, tuple) or not all([is_seating(frame, sort) for sort in sorts]):
        return False
    if not are_ascending(sorts):
        return False
    within = {}
    for sort in sorts:
        members = seatings_one_with(frame, sort)
        if min(members) != sort:
            return False
        for seating in members:
            within[seating] = True
    one, other = seatings
    if one not in within or other in within:
        return False
    return all([led_by_row(seating, shift) in within for seating in within])
