"""How many sorts a web has, and how many of them are mirrorlike."""

from otherhand.errors import BadWeb
from otherhand.papers import Paper
from otherhand.renamings import renamings
from otherhand.rounds import many_left, rounds_of
from otherhand.tallies import tally_of_tree
from otherhand.webs import need_web


class Means(Paper):
    """Each renaming of a web to itself, with how many settings it leaves."""

    def __init__(self, rows):
        super().__init__("means", rows)
        self.rows = self.parts[0]


def rows_of_means(web):
    """For each renaming of a web to itself: it, left, left in the mirror."""
    return tuple([(row, *many_left(rounds_of(web, row))) for row in renamings(web, web)])


def means(web):
    """The Means of a web."""
    need_web(web, "web")
    return Means(rows_of_means(web))


def tally_of_web(web):
    """How many sorts a web has, and how many mirrorlike ones."""
    if web.is_tree:
        return tally_of_tree(web)
    rows = rows_of_means(web)
    left = sum([many for _, many, _ in rows])
    left_in_mirror = sum([many for _, _, many in rows])
    return (left // len(rows), left_in_mirror // len(rows))


def many_sorts(web):
    """How many sorts a web has."""
    need_web(web, "web")
    return tally_of_web(web)[0]


def many_mirrorlike(web):
    """How many sorts of a web are mirrorlike."""
    need_web(web, "web")
    return tally_of_web(web)[1]


def all_handless(web):
    """Whether all sorts of a web are mirrorlike."""
    need_web(web, "web")
    found, mirrorlike = tally_of_web(web)
    return found == mirrorlike


def by_codes(web):
    """How many sorts a tree has, and how many mirrorlike ones."""
    need_web(web, "web")
    if not web.is_tree:
        raise BadWeb("tree")
    return tally_of_tree(web)
