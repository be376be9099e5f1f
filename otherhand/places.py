"""Places of a body: which are alike, and which only to an eye that has no hand."""

from otherhand.bodies import Body, need_body
from otherhand.checks import first_twice, is_numbers
from otherhand.errors import BadRow, Misfit, Twice
from otherhand.given import need_piece
from otherhand.kinship import mirroring_rows, own_rows
from otherhand.marks import image_of_tie
from otherhand.orbits import parted_by
from otherhand.papers import Denial, Paper
from otherhand.placing import few_placements
from otherhand.refusing import found_or_refused
from otherhand.webs import Web, need_web


class Alike(Paper):
    """A renaming that leads a body to itself, and each piece asked to the other one."""

    def __init__(self, row):
        super().__init__("alike", row)
        self.row = self.parts[0]


class MirrorAlike(Paper):
    """A renaming that leads a body to its mirror image, and each piece asked to the other one."""

    def __init__(self, row):
        super().__init__("mirroralike", row)
        self.row = self.parts[0]


class Unlike(Denial):
    """Refusing trees of the bodies in which the pieces asked have new kinds."""

    def __init__(self, tree, mirrored):
        super().__init__("unlike", tree, mirrored)
        self.tree = self.parts[0]
        self.mirrored = self.parts[1]


def new_kinds(web, many):
    """The first so many new kinds of a web."""
    found = []
    number = 0
    while len(found) < many:
        name = f"new{number}"
        if name not in web.kinds:
            found.append(name)
        number += 1
    return found


def new_kind(web):
    """The first new kind of a web."""
    need_web(web, "web")
    return new_kinds(web, 1)[0]


def parted_pieces(body, rows):
    """The pieces of a body, parted by what such rows lead to one another."""
    return parted_by(rows, list(range(len(body.web))))


def kins(body):
    """All kins of a body."""
    need_body(body, "body")
    ways = few_placements(body.web, body.web)
    return parted_pieces(body, own_rows(body, ways))


def open_kins(body):
    """All open kins of a body."""
    need_body(body, "body")
    return open_kins_by(body, few_placements(body.web, body.web))


def open_kins_by(body, ways):
    """All open kins of a body, by the ways to place the core of its web on itself."""
    return parted_pieces(body, own_rows(body, ways) + mirroring_rows(body, ways))


def tie_kins(body):
    """The ties of a body, parted by what renamings that lead it to itself lead to one another."""
    need_body(body, "body")
    ties = body.web.ties
    rows = own_rows(body, few_placements(body.web, body.web))
    return parted_by([{tie: image_of_tie(tie, row) for tie in ties} for row in rows], list(ties))


def need_pieces_once(web, value, part):
    if not is_numbers(value):
        raise BadRow(part)
    for piece in value:
        need_piece(web, piece)
    twice = first_twice(value)
    if twice is not None:
        raise Twice(twice)


def need_rows_of_pieces(body, ones, others):
    need_body(body, "body")
    need_pieces_once(body.web, ones, "ones")
    need_pieces_once(body.web, others, "others")
    if len(ones) != len(others):
        raise Misfit("pieces")


def with_new_kinds(body, ones, others):
    """The body with new kinds at the ones, and the body with such at the others.

    Two pieces of unlike kinds get unlike new ones, which hide nothing.
    """
    web = body.web
    new = new_kinds(web, 2 * len(ones))
    further = new[len(ones):]
    kinds = list(web.kinds)
    its_kinds = list(web.kinds)
    for kind, one, other in zip(new, ones, others):
        kinds[one] = kind
        its_kinds[other] = kind if web.kinds[one] == web.kinds[other] else further.pop(0)
    return with_kinds(body, kinds), with_kinds(body, its_kinds)


def with_kinds(body, kinds):
    """The body with these kinds of its pieces."""
    return Body(Web(kinds, body.web.ties, body.web.hubs, body.web.stiff), body.setting)


def with_one_new_kind(body, one, other):
    """The body with a new kind at one piece, and the body with it at the other."""
    kind = new_kind(body.web)
    return body.with_kind(one, kind), body.with_kind(other, kind)


def paper_of(body, first, second):
    """What a renaming from the first body to the second one, or its mirror image, shows."""
    few_placements(body.web, body.web)
    row, tree = found_or_refused(first, second)
    if row is not None:
        return Alike(row)
    row, mirrored = found_or_refused(first, second.mirrored())
    return Unlike(tree, mirrored) if row is None else MirrorAlike(row)


def alike(body, one, other):
    """Whether two pieces are alike, otherwise mirror-alike, otherwise unlike."""
    need_body(body, "body")
    need_piece(body.web, one)
    need_piece(body.web, other)
    first, second = with_one_new_kind(body, one, other)
    return paper_of(body, first, second)


def all_alike(body, ones, others):
    """Whether the pieces of two lists are alike, each with the other one at its place."""
    need_rows_of_pieces(body, ones, others)
    first, second = with_new_kinds(body, ones, others)
    return paper_of(body, first, second)
