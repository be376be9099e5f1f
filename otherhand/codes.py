"""Codes of branches, of whole trees, and the entries of core pieces."""

from otherhand.bodies import need_body
from otherhand.branches import core_of, reached_without
from otherhand.coding import branch_code, has_like, is_tied_stiffly, tie_of, told_side
from otherhand.errors import BadBody, BadWeb
from otherhand.given import need_piece
from otherhand.sights import sight_of
from otherhand.webs import need_web


def need_branch_pieces(web, piece, ahead):
    need_piece(web, piece)
    if ahead is not None:
        need_piece(web, ahead)


def is_branch(web, piece, ahead):
    """Whether what is seen from ahead, or the whole from a piece, has no loop."""
    if ahead is None:
        return web.is_tree
    if ahead not in web.near[piece]:
        return False
    found = {other: True for other in reached_without(web, piece, ahead)}
    back = [other for other in web.near[ahead] if other in found]
    ties = [tie for tie in web.ties if tie[0] in found and tie[1] in found]
    return back == [piece] and len(ties) == len(found) - 1


def code_of(body, piece, ahead):
    """The code of a branch, or of the whole tree if ahead is None."""
    need_body(body, "body")
    need_branch_pieces(body.web, piece, ahead)
    if not is_branch(body.web, piece, ahead):
        raise BadBody("branch")
    return branch_code(body.web, body.setting, piece, ahead, {})


def plain_code(web, piece, ahead):
    """The plain code of a branch, or of the whole tree if ahead is None."""
    need_web(web, "web")
    need_branch_pieces(web, piece, ahead)
    if not is_branch(web, piece, ahead):
        raise BadWeb("branch")
    return branch_code(web, None, piece, ahead, {})


def whole_code(body):
    """The code of a tree, seen from its middle."""
    need_body(body, "body")
    if not body.web.is_tree:
        raise BadBody("tree")
    core = core_of(body.web)
    if len(core) == 1:
        return branch_code(body.web, body.setting, core[0], None, {})
    return middle_tie_code(body.web, body.setting, core)


def middle_tie_code(web, setting, core):
    """The codes of the two halves, descending, whether their tie is stiff, and its side."""
    ranks = {}
    low, high = core
    codes = [
        branch_code(web, setting, low, high, ranks),
        branch_code(web, setting, high, low, ranks),
    ]
    stiff = is_tied_stiffly(web, low, high)
    side = 0
    if stiff and not has_like(ranks[low][0]) and not has_like(ranks[high][0]):
        side = told_side(web, setting, tie_of(low, high), [ranks[end][1][0] for end in core])
    return (max(codes), min(codes), stiff, side)


def entries_of(body, piece):
    """The entries of a core piece: those of the branches that hang at it."""
    need_body(body, "body")
    need_piece(body.web, piece)
    sight = sight_of(body)
    if piece not in sight.core:
        raise BadBody("core")
    return sight.entries[piece]
