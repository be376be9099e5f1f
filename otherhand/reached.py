"""What comes of a body by twists, and which sorts twists join."""

from otherhand.bodies import need_body
from otherhand.given import need_few_marks, need_twists
from otherhand.orbits import bits_of_lot, number_of, parted_by, reached_by
from otherhand.partings import Parting
from otherhand.renamings import renamings
from otherhand.webs import need_web


def need_few_marks_and_renamings(web):
    need_few_marks(web)
    # All renamings are asked for, not only the ways to place the core.
    renamings(web, web)


def twist_steps(web, twists):
    """For each twist the numbers of the settings to which it leads all settings."""
    many = len(web.marks)
    numbers = list(range(1 << many))
    steps = []
    for lot in twists:
        bits = bits_of_lot(many, lot)
        steps.append([number ^ bits for number in numbers])
    return steps


def reached(body, twists):
    """The sorts of all bodies that come of one by twists, as its web is numbered."""
    need_body(body, "body")
    need_twists(body.web, twists)
    need_few_marks_and_renamings(body.web)
    parting = Parting(body.web)
    numbers = reached_by(twist_steps(body.web, twists), number_of(body.setting))
    found = sorted(set([parting.least[number] for number in numbers]))
    return tuple([parting.settings[sort] for sort in found])


def joined_sorts(web, twists):
    """All sorts of a web in lots of those that twists join."""
    need_web(web, "web")
    need_twists(web, twists)
    need_few_marks_and_renamings(web)
    parting = Parting(web)
    steps = parting.steps + twist_steps(web, twists)
    lots = []
    for numbers in parted_by(steps, list(range(len(parting.settings)))):
        own = [number for number in numbers if parting.least[number] == number]
        lots.append(tuple([parting.settings[number] for number in own]))
    return tuple(lots)


def are_joined(web, twists):
    """Whether twists join all sorts of a web."""
    return len(joined_sorts(web, twists)) == 1
