"""Stories of desks: replayed, and put together."""

from otherhand.desk import Desk
from otherhand.desk_lines import DEEDS, need_word
from otherhand.errors import BadDesk, BadLine, HandError


def need_lines(lines):
    if not isinstance(lines, (list, tuple)) or not all([isinstance(line, str) for line in lines]):
        raise BadDesk("lines")


def need_desk(value, part):
    if not isinstance(value, Desk):
        raise BadDesk(part)


def need_two_desks(one, other):
    need_desk(one, "one")
    need_desk(other, "other")


def replay(lines):
    """A new desk that is told these deed lines."""
    need_lines(lines)
    desk = Desk()
    for at, line in enumerate(lines):
        try:
            need_word(line, DEEDS)
            desk(line)
        except HandError as error:
            raise BadLine(at, error) from None
    return desk


def parting(one, other):
    """How many lines the stories of two desks begin with alike."""
    need_two_desks(one, other)
    many = 0
    for line, its in zip(one.story, other.story):
        if line != its:
            break
        many += 1
    return many


def merged(one, other):
    """A new desk with the lines of both stories, and the numbers of other's refused lines."""
    shared = parting(one, other)
    desk = replay(one.story)
    lines = list(other.story)
    refused = []
    for at in range(shared, len(lines)):
        try:
            desk(lines[at])
        except HandError:
            refused.append(at)
    return desk, tuple(refused)
