"""Placing the core of one web or body, piece by piece, on that of another one."""

from otherhand.errors import TooMany
from otherhand.sights import plain_sight

MOST_RENAMINGS = 400


def are_like_pieces(one, piece, other, image):
    """Whether two core pieces are alike in kind, hub, neighbours and entries."""
    near = len(one.web.near[piece])
    return (
        one.web.kinds[piece] == other.web.kinds[image]
        and (piece in one.web.hubs) == (image in other.web.hubs)
        and near == len(other.web.near[image])
        and one.entries[piece] == other.entries[image]
    )


def open_images(one, other):
    """For each piece of the core of one the pieces of other's core that are like it."""
    images = {}
    for piece in one.core:
        images[piece] = [at for at in other.core if are_like_pieces(one, piece, other, at)]
    return images


def left_open(one, other, images, piece, image):
    """What is left of the open images when a piece is placed on an image."""
    left = {}
    bonds = one.bonds[piece]
    its = other.bonds[image]
    for far in images:
        if far != piece:
            asked = bonds.get(far, 0)
            left[far] = [at for at in images[far] if at != image and its.get(at, 0) == asked]
    return left


def next_piece(images):
    """The piece with the fewest open images: so dead ends show early."""
    return min(list(images), key=lambda piece: len(images[piece]))


def placements(one, other, most):
    """The ways to place the core of one on that of other, more than most cut off.

    Each is a dict from pieces to images. Only ways by plain sights are asked.
    """
    if len(one.core) != len(other.core):
        return []
    found = []
    extend_placement(one, other, open_images(one, other), {}, found, most)
    return found


def extend_placement(one, other, images, placed, found, most):
    """Puts the ways to place what is left of the core on the list found."""
    if not images:
        found.append(placed)
        return
    piece = next_piece(images)
    for image in images[piece]:
        if len(found) > most:
            return
        left = left_open(one, other, images, piece, image)
        extend_placement(one, other, left, {**placed, piece: image}, found, most)


def few_placements(web, other):
    """The ways to place the core of a web by plain sights; TooMany if there are too many."""
    found = placements(plain_sight(web), plain_sight(other), MOST_RENAMINGS)
    if len(found) > MOST_RENAMINGS:
        raise TooMany("renamings", MOST_RENAMINGS)
    return found
