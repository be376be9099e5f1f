"""The renamings that lead a body to itself, and what they lead to one another.

There may be too many to list them: told here are some by which all others
come, done one behind another and backwards.
"""

from otherhand.core_marks import marks_differ
from otherhand.sights import sight_of
from otherhand.spreading import lead_children, led_row, like_neighbours, settle


def can_be_led(one, other, placed):
    """Whether this way to place the core leads one body to the other, seen from their cores."""
    for piece in placed:
        if one.entries[piece] != other.entries[placed[piece]]:
            return False
    return not marks_differ(one, other, placed)


def own_rows(body, ways):
    """Renamings by which come all that lead a body to itself.

    Ways are all ways to place its core on itself by plain sights.
    """
    sight = sight_of(body)
    rows = [led_row(sight, sight, placed) for placed in ways if can_be_led(sight, sight, placed)]
    return rows + exchanges_that_keep(sight)


def mirroring_rows(body, ways):
    """A renaming that leads a body to its mirror image, in a list; an empty one if none does."""
    sight = sight_of(body)
    image = sight_of(body.mirrored())
    for placed in ways:
        if can_be_led(sight, image, placed):
            return [led_row(sight, image, placed)]
    return []


def exchanges_that_keep(sight):
    """Renamings by which come all that lead a body to itself and leave its core where it is.

    To exchange two like branches turns the hand of their hub, or the side of
    their stiff tie: there it is done twice, at a tie once at each end.
    """
    web = sight.web
    pairs = [like_neighbours(sight, piece) for piece in range(len(web))]
    ends = [end for tie in web.stiff for end in tie]
    rows = []
    for piece in range(len(web)):
        if piece in web.hubs:
            rows = rows + [exchanging(sight, [pairs[piece][0], pair]) for pair in pairs[piece][1:]]
        elif piece not in ends:
            rows = rows + [exchanging(sight, [pair]) for pair in pairs[piece]]
    for low, high in web.stiff:
        if pairs[low] and pairs[high]:
            rows.append(exchanging(sight, [pairs[low][0], pairs[high][0]]))
    return rows


def exchanging(sight, pairs):
    """The row of images that exchanges the like branches of some pairs, one pair behind another."""
    row = list(range(len(sight.web)))
    for first, second in pairs:
        row[first], row[second] = row[second], row[first]
    for pair in pairs:
        for branch in pair:
            lead_children(sight, sight, branch, row)
            settle(sight, sight, branch, row)
    return tuple(row)
