"""Which marks to turn, so that one body becomes another one of its web."""

from otherhand.bodies import need_body
from otherhand.given import need_marks_within, need_one_web, need_two_neighbours
from otherhand.leading import need_renaming
from otherhand.marks import hub_mark, signs_of
from otherhand.papers import Paper
from otherhand.partings import Parting
from otherhand.renamings import renamings
from otherhand.webs import need_web

MOST_MARKS_APART = 6


class Turns(Paper):
    """A lot to turn, and a renaming that leads the body so turned to the other one."""

    def __init__(self, lot, row):
        super().__init__("turns", lot, row)
        self.lot = self.parts[0]
        self.row = self.parts[1]


def need_two_bodies(one, other):
    need_body(one, "one")
    need_body(other, "other")


def unlike_by(one, other, row):
    """The marks of one that are not led, by this renaming of its web, to those of other."""
    lot = []
    for mark, (image, turn) in enumerate(signs_of(one.web, one.web, row)):
        if one.setting[mark] * turn != other.setting[image]:
            lot.append(mark)
    return tuple(lot)


def unlike_lots(one, other):
    """For each renaming of the web of two bodies, ascending, the pair of it and of a lot.

    This lot turned in one, the renaming leads it to other.
    """
    return [(row, unlike_by(one, other, row)) for row in renamings(one.web, one.web)]


def unlike_marks(one, other, row):
    """The lot that is turned in one so that the renaming leads it to other."""
    need_two_bodies(one, other)
    need_renaming(one.web, one.web, row, "row")
    need_one_web(one, other)
    return unlike_by(one, other, row)


def fewest_turns(one, other):
    """The Turns of the least lot of the fewest marks."""
    need_two_bodies(one, other)
    need_one_web(one, other)
    row, lot = min(unlike_lots(one, other), key=lambda pair: (len(pair[1]), pair[1]))
    return Turns(lot, row)


def farthest(web):
    """How many marks are to be turned at most between two sorts, and the least such pair."""
    need_web(web, "web")
    need_marks_within(web, MOST_MARKS_APART)
    # All renamings are asked for, not only the ways to place the core.
    renamings(web, web)
    parting = Parting(web)
    sorts = list(parting.parts)
    found = (0, sorts[0], sorts[0])
    for at, one in enumerate(sorts):
        for other in sorts[at + 1:]:
            fewest = min([many_bits(one ^ number) for number in parting.parts[other]])
            if fewest > found[0]:
                found = (fewest, one, other)
    return (found[0], parting.settings[found[1]], parting.settings[found[2]])


def many_bits(number):
    """How many bits of a number from 0 on are set."""
    return f"{number:b}".count("1")


def exchanged(body, hub, one, other):
    """The body in which two neighbours of a hub have changed their seats."""
    need_body(body, "body")
    need_two_neighbours(body.web, hub, one, other)
    return body.turned([hub_mark(body.web, hub)])
