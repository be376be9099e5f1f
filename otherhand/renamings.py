"""Renamings of webs, and rows of images."""

from otherhand.checks import is_integer
from otherhand.coding import bond
from otherhand.errors import BadNumber, BadRow, Misfit, TooMany
from otherhand.given import is_row
from otherhand.placing import MOST_RENAMINGS, placements
from otherhand.sights import plain_sight
from otherhand.spreading import exchanging_rows, plain_row
from otherhand.texts import MOST_PIECES
from otherhand.webs import need_web


def renamings(web, other):
    """All renamings of a web to another one, ascending."""
    need_web(web, "web")
    need_web(other, "other")
    one, its = plain_sight(web), plain_sight(other)
    each = many_within_branches(one)
    placed = placements(one, its, MOST_RENAMINGS // each)
    if len(placed) * each > MOST_RENAMINGS:
        raise TooMany("renamings", MOST_RENAMINGS)
    if not placed:
        return ()
    ahead = all_put_together(exchanging_rows(one), len(web))
    rows = [plain_row(one, its, images) for images in placed]
    return tuple(sorted([chained(first, second) for first in ahead for second in rows]))


def many_within_branches(sight):
    """How many renamings of a web to itself leave each core piece where it is."""
    many = 1
    for entries in sight.entries:
        run = 1
        for at in range(1, len(entries)):
            run = run + 1 if entries[at - 1] == entries[at] else 1
            many = many * run
    return many


def all_put_together(rows, many):
    """All that comes of some rows of images put together, the plain row too."""
    found = {tuple(range(many)): True}
    reached = list(found)
    while reached:
        row = reached.pop()
        for step in rows:
            further = chained(row, step)
            if further not in found:
                found[further] = True
                reached.append(further)
    return list(found)


def is_renaming(web, other, row):
    """Whether any value is a renaming of a web to another one."""
    need_web(web, "web")
    need_web(other, "other")
    if len(web) != len(other) or not is_row(row, len(web)):
        return False
    if [other.kinds[image] for image in row] != list(web.kinds):
        return False
    if sorted([row[hub] for hub in web.hubs]) != list(other.hubs):
        return False
    return keeps_ties(web, other, row)


def keeps_ties(web, other, row):
    """Whether just the images of tied pieces are tied, of stiff ties stiffly."""
    if len(web.ties) != len(other.ties):
        return False
    for low, high in web.ties:
        if bond(web, low, high) != bond(other, row[low], row[high]):
            return False
    return True


def need_images(row, part):
    if not isinstance(row, (list, tuple)) or not 1 <= len(row) <= MOST_PIECES:
        raise BadRow(part)
    if not is_row(row, len(row)):
        raise BadRow(part)


def chained(one, other):
    """The row that leads by one row and then by other."""
    return tuple([other[image] for image in one])


def put_together(one, other):
    """The row that leads by one row and then by other."""
    need_images(one, "one")
    need_images(other, "other")
    if len(one) != len(other):
        raise Misfit("pieces")
    return chained(one, other)


def backwards(row):
    """The row that leads back."""
    need_images(row, "row")
    places = {image: piece for piece, image in enumerate(row)}
    return tuple([places[piece] for piece in range(len(row))])


def power(row, number):
    """The row put together with itself number times, backwards below 0."""
    need_images(row, "row")
    if not is_integer(number):
        raise BadNumber("number")
    found = [0] * len(row)
    for piece in range(len(row)):
        loop = loop_from(row, piece)
        # Any number of steps, also backwards, is so many round the loop.
        found[piece] = loop[number % len(loop)]
    return tuple(found)


def loop_from(row, piece):
    """The pieces by which a row leads from a piece back to it, this piece first."""
    loop = [piece]
    while row[loop[-1]] != piece:
        loop.append(row[loop[-1]])
    return loop
