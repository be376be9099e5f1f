"""Rungs of ladders and wreaths: a hub with an end to either side, each told by its kind."""

from otherhand.checks import is_name
from otherhand.errors import BadPicture, BadText


def need_kind(value, part):
    if not is_name(value):
        raise BadPicture(part)


def is_rung(value):
    """Whether a value is a triple of kinds."""
    if not isinstance(value, (list, tuple)) or len(value) != 3:
        return False
    return all([is_name(kind) for kind in value])


def need_rungs(value, least, most):
    if not isinstance(value, (list, tuple)) or not least <= len(value) <= most:
        raise BadPicture("rungs")
    if not all([is_rung(rung) for rung in value]):
        raise BadPicture("rungs")


def kept_rungs(rungs):
    """The rungs as they are kept: tuples."""
    return tuple([tuple(rung) for rung in rungs])


def turned_rung(rung):
    """The rung with its two ends exchanged."""
    return (rung[2], rung[1], rung[0])


def with_rung_turned(rungs, at):
    """The rungs, the ends of one of them exchanged."""
    return [turned_rung(rung) if place == at else rung for place, rung in enumerate(rungs)]


def read_kind(items, at):
    """The kind at a place among the items of a text."""
    if at >= len(items) or not is_name(items[at]):
        raise BadText(0, at)
    return items[at]


def read_rung(items, at):
    """The rung that begins at a place among the items of a text."""
    return tuple([read_kind(items, at + place) for place in range(3)])


def need_slash(items, at):
    if at >= len(items) or items[at] != "/":
        raise BadText(0, at)
