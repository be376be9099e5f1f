"""The marks of a core that tell something, and whether they are those of their images."""

from otherhand.coding import has_like, is_tied_stiffly, tie_of, told_hand, told_side


def stiff_core_ties(sight):
    """The stiff ties of which one end at least is in the core."""
    return [tie for tie in sight.web.stiff if tie[0] in sight.core or tie[1] in sight.core]


def entries_beside(sight, end, far):
    """The entries of the branches that hang at one end of a tie, without the other end."""
    branches = sight.branches[end]
    return [entry for at, entry in enumerate(sight.entries[end]) if branches[at] != far]


def is_void_hub(sight, hub):
    """Whether two of the branches that hang at a hub have equal entries."""
    return has_like(sight.entries[hub])


def is_void_tie(sight, tie):
    """Whether the two others of one end both hang, and have equal entries."""
    low, high = tie
    return has_like(entries_beside(sight, low, high)) or has_like(entries_beside(sight, high, low))


def telling_hubs(sight):
    """The hubs of the core whose hands are not void."""
    return [hub for hub in sight.web.hubs if hub in sight.core and not is_void_hub(sight, hub)]


def telling_ties(sight):
    """The stiff ties at the core whose sides are not void."""
    return [tie for tie in stiff_core_ties(sight) if not is_void_tie(sight, tie)]


def are_placed(sight, ends, placed):
    """Whether those ends that are in the core, and their core neighbours, are placed."""
    asked = [end for end in ends if end in sight.core]
    for end in ends:
        if end in sight.core:
            asked = asked + sight.within[end]
    return all([piece in placed for piece in asked])


def hand_differs(one, other, placed, hub):
    """Whether the hand of a hub is not that of its image."""
    image = placed[hub]
    order = [*one.branches[hub], *one.within[hub]]
    its = [*other.branches[image], *[placed[piece] for piece in one.within[hub]]]
    hand = told_hand(one.web, one.setting, hub, order)
    return hand != told_hand(other.web, other.setting, image, its)


def first_beside_tie(one, end, far):
    """The first one of an end of a stiff tie: branches first, then core pieces."""
    others = [piece for piece in [*one.branches[end], *one.within[end]] if piece != far]
    return others[0]


def image_of_end(one, other, placed, end, far):
    """The image of an end of a stiff tie, also of one that hangs off the core."""
    if end in one.core:
        return placed[end]
    by = placed[far]
    return [child for child in other.branches[by] if is_tied_stiffly(other.web, by, child)][0]


def side_differs(one, other, placed, tie):
    """Whether the side of a stiff tie is not that of its image."""
    low, high = tie
    firsts = {}
    its = {}
    for end, far in [(low, high), (high, low)]:
        image = image_of_end(one, other, placed, end, far)
        image_far = image_of_end(one, other, placed, far, end)
        firsts[end] = first_beside_tie(one, end, far)
        if firsts[end] in one.core:
            its[image] = placed[firsts[end]]
        else:
            its[image] = first_beside_tie(other, image, image_far)
    image_tie = tie_of(list(its)[0], list(its)[1])
    side = told_side(one.web, one.setting, tie, [firsts[end] for end in tie])
    return side != told_side(other.web, other.setting, image_tie, [its[end] for end in image_tie])


def marks_differ(one, other, placed):
    """Whether a core mark that is wholly placed, and not void, is not that of its image."""
    for hub in telling_hubs(one):
        if are_placed(one, [hub], placed) and hand_differs(one, other, placed, hub):
            return True
    for tie in telling_ties(one):
        if are_placed(one, tie, placed) and side_differs(one, other, placed, tie):
            return True
    return False
