"""Flat pieces and their two faces."""

from otherhand.bodies import Body, need_body
from otherhand.checks import is_sign
from otherhand.errors import BadNumber, Misfit
from otherhand.given import need_piece
from otherhand.joined import stiff_ends
from otherhand.places import new_kind
from otherhand.sameness import same
from otherhand.webs import Web, need_web

NEIGHBOURS_OF_A_FLAT_PIECE = 3


def is_flat(web, piece):
    """Whether a piece has three neighbours, is no hub and has no stiff tie."""
    if len(web.near[piece]) != NEIGHBOURS_OF_A_FLAT_PIECE:
        return False
    return piece not in web.hubs and piece not in stiff_ends(web)


def flat_pieces(web):
    """The flat pieces of a web, ascending."""
    need_web(web, "web")
    return tuple([piece for piece in range(len(web)) if is_flat(web, piece)])


def need_flat(body, piece):
    if not is_flat(body.web, piece):
        raise Misfit("piece")


def faced(body, piece, hand):
    """The body in which a flat piece is a hub of this hand, with a new neighbour."""
    need_body(body, "body")
    need_piece(body.web, piece)
    if not is_sign(hand):
        raise BadNumber("hand")
    need_flat(body, piece)
    return faced_body(body, piece, hand)


def faced_body(body, piece, hand):
    """The body faced at a piece that is known to be flat."""
    web = body.web
    ties = [*web.ties, (piece, len(web))]
    further = Web([*web.kinds, new_kind(web)], ties, [*web.hubs, piece], web.stiff)
    ahead = len([hub for hub in web.hubs if hub < piece])
    return Body(further, [*body.setting[:ahead], hand, *body.setting[ahead:]])


def both_faced(body, piece):
    """The bodies faced by 1 and by -1; errors as of faces."""
    need_body(body, "body")
    need_piece(body.web, piece)
    need_flat(body, piece)
    return faced_body(body, piece, 1), faced_body(body, piece, -1)


def faces(body, piece):
    """Whether the bodies faced by 1 and by -1 are one, mirror images, or neither."""
    one, other = both_faced(body, piece)
    return same(one, other)
