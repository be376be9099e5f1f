"""From the core outwards: rows of images for all pieces, once the core is placed."""

from otherhand.coding import is_tied_stiffly, tie_of
from otherhand.marks import (
    hand_turn,
    hub_mark,
    image_of_tie,
    side_turn,
    tie_mark,
)


def lead_branch(one, other, piece, image, row):
    """Leads a branch to one with an equal plain code, in the row of images."""
    row[piece] = image
    for child, its in zip(one.branches[piece], other.branches[image]):
        lead_branch(one, other, child, its, row)


def plain_row(one, other, placed):
    """A renaming, by plain sights, for a way to place the core."""
    row = [0] * len(one.web)
    for piece in placed:
        lead_branch(one, other, piece, placed[piece], row)
    return tuple(row)


def exchanging_rows(sight):
    """Renamings of a web to itself that exchange two like branches of one piece.

    Done one behind another they make all that leave the core where it is.
    """
    rows = []
    for piece in range(len(sight.web)):
        for first, second in like_neighbours(sight, piece):
            row = list(range(len(sight.web)))
            lead_branch(sight, sight, first, second, row)
            lead_branch(sight, sight, second, first, row)
            rows.append(tuple(row))
    return rows


def like_neighbours(sight, piece):
    """The pairs of branches of a piece, next to one another, with equal entries."""
    entries = sight.entries[piece]
    branches = sight.branches[piece]
    pairs = []
    for at in range(1, len(entries)):
        if entries[at - 1] == entries[at]:
            pairs.append((branches[at - 1], branches[at]))
    return pairs


def exchange_like(one, piece, row):
    """Exchanges the images of two like branches; whether there are two."""
    pairs = like_neighbours(one, piece)
    if pairs:
        first, second = pairs[0]
        row[first], row[second] = row[second], row[first]
    return len(pairs) > 0


def place_branches(one, other, piece, row):
    """Gives the pieces of the branches of a piece their images."""
    for child, its in zip(one.branches[piece], other.branches[row[piece]]):
        row[child] = its


def keep_hand(one, other, hub, row):
    """Exchanges two like branches of a hub if its hand would come out wrong."""
    hand = one.setting[hub_mark(one.web, hub)] * hand_turn(one.web, hub, row)
    if hand != other.setting[hub_mark(other.web, row[hub])]:
        exchange_like(one, hub, row)


def keep_side(one, other, tie, row):
    """Exchanges two like branches at an end of a tie if its side would come out wrong."""
    side = one.setting[tie_mark(one.web, tie)] * side_turn(one.web, tie, row)
    if side == other.setting[tie_mark(other.web, image_of_tie(tie, row))]:
        return
    if not exchange_like(one, tie[0], row):
        exchange_like(one, tie[1], row)


def lead_children(one, other, piece, row):
    """Gives the branches of a piece their images, so that its hand comes out right."""
    place_branches(one, other, piece, row)
    if piece in one.web.hubs:
        keep_hand(one, other, piece, row)


def settle(one, other, piece, row):
    """Leads what hangs at a piece, whose own branches have their images already.

    The branch at a stiff tie comes first: while its own branches get their
    images, two like ones beside it can still be exchanged.
    """
    children = one.branches[piece]
    stiff = [at for at in children if is_tied_stiffly(one.web, piece, at)]
    others = [at for at in children if at not in stiff]
    for child in stiff + others:
        lead_children(one, other, child, row)
        if child in stiff:
            keep_side(one, other, tie_of(piece, child), row)
        settle(one, other, child, row)


def led_row(one, other, placed):
    """A renaming that leads one body to the other, for a way to place the core.

    No mark of the core may bar this way; equal entries can be led to one
    another, and two like branches exchanged where a mark would come out wrong.
    """
    row = [0] * len(one.web)
    for piece in placed:
        row[piece] = placed[piece]
        place_branches(one, other, piece, row)
    for hub in one.web.hubs:
        if hub in placed:
            keep_hand(one, other, hub, row)
    for tie in one.web.stiff:
        if tie[0] in placed and tie[1] in placed:
            keep_side(one, other, tie, row)
    for piece in one.core:
        settle(one, other, piece, row)
    return tuple(row)
