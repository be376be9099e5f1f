"""Webs and bodies as they are seen from their cores."""

from otherhand.branches import core_of
from otherhand.coding import bond, branch_code, descending, is_tied_stiffly
from otherhand.core_marks import telling_marks


class Sight:
    """A web, with a setting or with None, as seen from its core.

    Attributes: entries and branches, for each piece: the entries of the
    branches that hang at it, descending, and these branches in this order;
    within: for each piece its neighbours in the core, ascending; bonds: for
    each piece a dict of how it is tied to its neighbours; telling: the marks
    of the core that tell something, each with the core pieces it asks for.
    """

    def __init__(self, web, setting):
        self.web = web
        self.setting = setting
        self.core = core_of(web)
        ranks = {}
        for piece in self.core:
            ranks[piece] = core_ranks(web, setting, self.core, piece, ranks)
        self.entries = [ranks[piece][0] for piece in range(len(web))]
        self.branches = [ranks[piece][1] for piece in range(len(web))]
        self.within = [[other for other in row if other in self.core] for row in web.near]
        self.bonds = [
            {other: bond(web, piece, other) for other in row} for piece, row in enumerate(web.near)
        ]
        self.telling = telling_marks(self)


def core_ranks(web, setting, core, piece, ranks):
    """The entries of a core piece, with the side 0, and its branches."""
    pairs = []
    for child in web.near[piece]:
        if child not in core:
            code = branch_code(web, setting, child, piece, ranks)
            pairs.append(((code, is_tied_stiffly(web, piece, child), 0), child))
    return descending(pairs)


def sight_of(body):
    """A body as seen from its core."""
    return Sight(body.web, body.setting)


def plain_sight(web):
    """A web as seen from its core, by plain codes."""
    return Sight(web, None)
