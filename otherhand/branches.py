"""Cores, and the branches that hang off them."""

from otherhand.errors import BadWeb
from otherhand.given import need_piece
from otherhand.webs import need_web


def core_of(web):
    """The pieces of the core, ascending."""
    need_web(web, "web")
    left = list(range(len(web)))
    while not web.is_tree or len(left) > 2:
        inner = [piece for piece in left if many_within(web, piece, left) > 1]
        if len(inner) == len(left):
            break
        left = inner
    return tuple(left)


def many_within(web, piece, pieces):
    """How many neighbours of a piece are among these pieces."""
    return len([other for other in web.near[piece] if other in pieces])


def middle(web):
    """The pieces of the core of a tree, ascending."""
    need_web(web, "web")
    if not web.is_tree:
        raise BadWeb("tree")
    return core_of(web)


def aheads(web, core):
    """For each piece its neighbour ahead, None for a piece of the core."""
    found = {piece: None for piece in core}
    reached = list(core)
    while reached:
        piece = reached.pop()
        for other in web.near[piece]:
            if other not in found:
                found[other] = piece
                reached.append(other)
    return [found[piece] for piece in range(len(web))]


def ahead_of(web, piece):
    """The neighbour of a piece on the way to the core, None within the core."""
    need_web(web, "web")
    need_piece(web, piece)
    return aheads(web, core_of(web))[piece]


def hanging(web, piece):
    """The neighbours of a piece off the core that are not ahead of it, ascending."""
    need_web(web, "web")
    need_piece(web, piece)
    ahead = aheads(web, core_of(web))
    return tuple([other for other in web.near[piece] if ahead[other] == piece])


def behind(web, piece, ahead):
    """The pieces of the branch of a piece, ascending."""
    need_web(web, "web")
    need_piece(web, piece)
    need_piece(web, ahead)
    if ahead_of(web, piece) != ahead:
        raise BadWeb("branch")
    return tuple(sorted(reached_without(web, piece, ahead)))


def reached_without(web, piece, barred):
    """The pieces that can be reached from a piece, but not by way of the barred one."""
    found = {piece: True}
    reached = [piece]
    while reached:
        at = reached.pop()
        for other in web.near[at]:
            if other not in found and other != barred:
                found[other] = True
                reached.append(other)
    return list(found)
