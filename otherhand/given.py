"""What is asked of values that are passed together with a web.

Each function raises the error that the general rules tell for its value.
"""

from otherhand.checks import first_twice, is_integer, is_numbers, is_sign, is_within
from otherhand.errors import BadBody, BadLot, BadRow, Misfit, NoMark, NoPiece, TooMany, Twice

MOST_MARKS = 10
MOST_TWISTS = 8


def is_row(value, many):
    """Whether a value is a list of the integers from 0 to many - 1, each once."""
    return is_numbers(value) and sorted(value) == list(range(many))


def is_setting(web, value):
    """Whether a value is a list of as many 1 and -1 as the web has marks."""
    if not isinstance(value, (list, tuple)) or len(value) != len(web.marks):
        return False
    return all([is_sign(sign) for sign in value])


def is_hub(web, value):
    """Whether a value is a hub of the web."""
    return is_integer(value) and value in web.hubs


def is_stiff(web, value):
    """Whether a value is a stiff tie of the web, as an ascending pair."""
    return is_numbers(value) and tuple(value) in web.stiff


def need_piece(web, value):
    if not is_within(value, 0, len(web) - 1):
        raise NoPiece(value)


def need_mark(web, value):
    if not is_within(value, 0, len(web.marks) - 1):
        raise NoMark(value)


def need_hub(web, value):
    if not is_hub(web, value):
        raise NoMark(value)


def need_two_neighbours(web, hub, one, other):
    """Asks for a hub and two unlike neighbours of it."""
    need_hub(web, hub)
    for piece in (one, other):
        if not is_integer(piece) or piece not in web.near[hub]:
            raise NoPiece(piece)
    if one == other:
        raise Twice(other)


def need_one_web(one, other):
    """Asks whether two values are of one web."""
    if one.web != other.web:
        raise Misfit("webs")


def need_row(many, value, part):
    if not is_row(value, many):
        raise BadRow(part)


def need_setting(web, value, part):
    if not is_setting(web, value):
        raise BadBody(part)


def need_lot(web, value, part):
    if not is_numbers(value):
        raise BadLot(part)
    for mark in value:
        need_mark(web, mark)
    twice = first_twice(value)
    if twice is not None:
        raise Twice(twice)


def need_few_marks(web):
    need_marks_within(web, MOST_MARKS)


def need_marks_within(web, most):
    if len(web.marks) > most:
        raise TooMany("marks", most)


def need_twists(web, value):
    if not isinstance(value, (list, tuple)) or not 1 <= len(value) <= MOST_TWISTS:
        raise BadLot("twists")
    if not all([is_numbers(lot) for lot in value]):
        raise BadLot("twists")
    for lot in value:
        need_lot(web, lot, "twists")
