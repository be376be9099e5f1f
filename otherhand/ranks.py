"""The branches of a piece of a tree, and how they rank.

A setting of None stands for plain codes alone.
"""

from otherhand.bodies import need_body
from otherhand.coding import branch_code, descending, has_like, is_tied_stiffly
from otherhand.errors import BadWeb
from otherhand.given import need_piece
from otherhand.webs import need_web


def need_tree(web):
    if not web.is_tree:
        raise BadWeb("tree")


def rank_of(web, setting, piece, branch):
    """What tells the rank of a branch of a piece: its plain code, then its code."""
    plain = branch_code(web, None, branch, piece, {})
    return (plain, branch_code(web, setting, branch, piece, {}))


def ranks_at(web, setting, piece):
    """The ranks of the branches of a piece, descending, and these branches in this order."""
    pairs = []
    for branch in web.near[piece]:
        # At an end of a stiff tie the other end is no branch.
        if not is_tied_stiffly(web, piece, branch):
            pairs.append((rank_of(web, setting, piece, branch), branch))
    return descending(pairs)


def order_at(web, setting, piece):
    """The branches of a piece as they rank, None if two rank alike."""
    need_tree(web)
    ranks, branches = ranks_at(web, setting, piece)
    return None if has_like(ranks) else branches


def plain_ranked(web, piece):
    """The neighbours of a piece as their branches rank by plain codes, None if two are like."""
    need_web(web, "web")
    need_piece(web, piece)
    return order_at(web, None, piece)


def ranked(body, piece):
    """The neighbours of a piece as their branches rank, None if two are like."""
    need_body(body, "body")
    need_piece(body.web, piece)
    return order_at(body.web, body.setting, piece)
