"""Checks of papers about places and faces."""

from otherhand.bodies import need_body
from otherhand.check_renamings import is_refusing, leads_to
from otherhand.check_sameness import shows_same
from otherhand.flats import both_faced
from otherhand.given import need_piece
from otherhand.papers import class_name
from otherhand.places import (
    Alike,
    MirrorAlike,
    Unlike,
    need_rows_of_pieces,
    with_new_kinds,
    with_one_new_kind,
)


def shows_alike(body, one, other, value):
    """Whether a value is any right Alike, MirrorAlike or Unlike of two pieces."""
    need_body(body, "body")
    need_piece(body.web, one)
    need_piece(body.web, other)
    first, second = with_one_new_kind(body, one, other)
    return shows_led(first, second, value)


def shows_all_alike(body, ones, others, value):
    """Whether a value is any right Alike, MirrorAlike or Unlike of two lists of pieces."""
    need_rows_of_pieces(body, ones, others)
    first, second = with_new_kinds(body, ones, others)
    return shows_led(first, second, value)


def shows_led(first, second, value):
    """Whether a value is right of the two bodies with new kinds."""
    if isinstance(value, Alike) and class_name(value) == "Alike":
        return leads_to(first, second, value.row)
    image = second.mirrored()
    if isinstance(value, MirrorAlike) and class_name(value) == "MirrorAlike":
        return leads_to(first, image, value.row)
    if isinstance(value, Unlike) and class_name(value) == "Unlike":
        return is_refusing(first, second, value.tree) and is_refusing(first, image, value.mirrored)
    return False


def shows_faces(body, piece, value):
    """Whether a value is a right paper of the two faces of a flat piece."""
    one, other = both_faced(body, piece)
    return shows_same(one, other, value)
