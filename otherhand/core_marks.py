"""The marks of a core that tell something, and whether they are those of their images."""

from otherhand.coding import has_like, is_tied_stiffly, tie_of, told_hand, told_side


def stiff_core_ties(sight):
    """The stiff ties of which one end at least is in the core."""
    return [tie for tie in sight.web.stiff if tie[0] in sight.core or tie[1] in sight.core]


def entries_beside(sight, end, far):
    """The entries of the branches that hang at one end of a tie, without the other end."""
    branches = sight.branches[end]
    return [entry for at, entry in enumerate(sight.entries[end]) if branches[at] != far]


def is_void_hub(sight, hub):
    """Whether two of the branches that hang at a hub have equal entries."""
    return has_like(sight.entries[hub])


def is_void_tie(sight, tie):
    """Whether the two others of one end both hang, and have equal entries."""
    low, high = tie
    return has_like(entries_beside(sight, low, high)) or has_like(entries_beside(sight, high, low))


def telling_marks(sight):
    """The marks of the core that are not void, each with the core pieces that it asks for.

    Of the hub, or of the ends of the tie, these are those in the core and their core neighbours.
    """
    found = []
    for hub in sight.web.hubs:
        if hub in sight.core and not is_void_hub(sight, hub):
            found.append((hub, [hub, *sight.within[hub]]))
    for tie in stiff_core_ties(sight):
        if not is_void_tie(sight, tie):
            ends = [end for end in tie if end in sight.core]
            found.append((tie, ends + [piece for end in ends for piece in sight.within[end]]))
    return found


def hand_differs(one, other, placed, hub):
    """Whether the hand of a hub is not that of its image."""
    image = placed[hub]
    order = [*one.branches[hub], *one.within[hub]]
    its = [*other.branches[image], *[placed[piece] for piece in one.within[hub]]]
    hand = told_hand(one.web, one.setting, hub, order)
    return hand != told_hand(other.web, other.setting, image, its)


def first_beside_tie(one, end, far):
    """The first one of an end of a stiff tie: branches first, then core pieces."""
    others = [piece for piece in [*one.branches[end], *one.within[end]] if piece != far]
    return others[0]


def image_of_end(one, other, placed, end, far):
    """The image of an end of a stiff tie, also of one that hangs off the core."""
    if end in one.core:
        return placed[end]
    by = placed[far]
    return [child for child in other.branches[by] if is_tied_stiffly(other.web, by, child)][0]


def side_differs(one, other, placed, tie):
    """Whether the side of a stiff tie is not that of its image."""
    low, high = tie
    firsts = {}
    its = {}
    for end, far in [(low, high), (high, low)]:
        image = image_of_end(one, other, placed, end, far)
        image_far = image_of_end(one, other, placed, far, end)
        firsts[end] = first_beside_tie(one, end, far)
        if firsts[end] in one.core:
            its[image] = placed[firsts[end]]
        else:
            its[image] = first_beside_tie(other, image, image_far)
    image_tie = tie_of(list(its)[0], list(its)[1])
    side = told_side(one.web, one.setting, tie, [firsts[end] for end in tie])
    return side != told_side(other.web, other.setting, image_tie, [its[end] for end in image_tie])


def mark_differs(one, other, placed, mark):
    """Whether a core mark that is wholly placed is not that of its image."""
    if isinstance(mark, tuple):
        return side_differs(one, other, placed, mark)
    return hand_differs(one, other, placed, mark)


def marks_differ(one, other, placed):
    """Whether a core mark that is wholly placed, and not void, is not that of its image."""
    for mark, asked in one.telling:
        if all([at in placed for at in asked]) and mark_differs(one, other, placed, mark):
            return True
    return False


def new_marks_differ(one, other, placed, piece):
    """As marks_differ, of the marks that ask for this piece."""
    for mark, asked in one.telling:
        if piece in asked and all([at in placed for at in asked]):
            if mark_differs(one, other, placed, mark):
                return True
    return False
