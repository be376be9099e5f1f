"""Looks: what an eye that has no hand sees of the places of a body."""

from otherhand.bodies import Body, need_body
from otherhand.given import need_marks_within
from otherhand.placing import few_placements
from otherhand.places import open_kins_by
from otherhand.sorts import sorts
from otherhand.webs import need_web

MOST_MARKS_PARTED = 6


def look(body):
    """For each kind the pair of it and of how many open kins have pieces of it."""
    need_body(body, "body")
    return look_by(body, few_placements(body.web, body.web))


def look_by(body, ways):
    """The look of a body, by the ways to place the core of its web on itself."""
    kinds = body.web.kinds
    firsts = [kinds[kin[0]] for kin in open_kins_by(body, ways)]
    return tuple([(kind, firsts.count(kind)) for kind in sorted(set(firsts))])


def parted(web):
    """The pairs of a look and of all sorts of a web that have it, ascending."""
    need_web(web, "web")
    need_marks_within(web, MOST_MARKS_PARTED)
    ways = few_placements(web, web)
    found = {}
    for sort in sorts(web):
        found.setdefault(look_by(Body(web, sort), ways), []).append(sort)
    return tuple([(shown, tuple(found[shown])) for shown in sorted(found)])
