"""How many codes the settings of a tree make, from the ends inwards.

Codes are tallied as a pair: how many there are, and how many of them are the
same in the mirror image; all others come in pairs of mirrored ones.

Choices of codes for the branches of a piece are tallied as five numbers: all;
those in which no code stands twice at one piece; those that are the same in
the mirror image; and of the latter those in which no code stands twice, with
an even number of mirrored pairs and with an odd one.
"""

from math import comb

from otherhand.coding import is_tied_stiffly
from otherhand.sights import plain_sight

NO_CHOICE = (1, 1, 1, 1, 0)


def with_repeats(codes, many):
    """How many ways there are to take so many of some codes, repeats let."""
    return 1 if many == 0 else comb(codes + many - 1, many)


def choices_of_like(tally, many):
    """The choices for so many branches with one plain entry."""
    codes, kept = tally
    pairs = (codes - kept) // 2
    kept_choices = 0
    unlike = [0, 0]
    for taken in range(many // 2 + 1):
        left = many - 2 * taken
        kept_choices += with_repeats(pairs, taken) * with_repeats(kept, left)
        unlike[taken & 1] += comb(pairs, taken) * comb(kept, left)
    return (with_repeats(codes, many), comb(codes, many), kept_choices, unlike[0], unlike[1])


def together(one, other):
    """The choices of two that are taken independently."""
    _, _, _, even, odd = one
    _, _, _, its_even, its_odd = other
    return (
        one[0] * other[0],
        one[1] * other[1],
        one[2] * other[2],
        even * its_even + odd * its_odd,
        even * its_odd + odd * its_even,
    )


def without_mark(choices):
    """The codes that choices make if no mark is told by them."""
    return (choices[0], choices[2])


def with_hand(choices):
    """The codes at a hub: its hand says nothing if a code stands twice.

    In the mirror image the hand is turned, and once more for each mirrored pair.
    """
    unlike, kept, even, odd = choices[1:]
    return (choices[0] + unlike, kept - even + odd)


def with_side(choices):
    """The codes at a stiff tie, by the choices at both ends.

    In the mirror image its side is turned once for each mirrored pair.
    """
    unlike, kept, even, odd = choices[1:]
    return (choices[0] + unlike, kept + even - odd)


def runs_of(entries, branches):
    """The branches, in the order of their entries, in lists of equal ones."""
    runs = []
    for at, branch in enumerate(branches):
        if at > 0 and entries[at - 1] == entries[at]:
            runs[-1].append(branch)
        else:
            runs.append([branch])
    return runs


def choices_at(sight, piece, barred):
    """The choices for the branches that hang at a piece, without a barred one."""
    choices = NO_CHOICE
    for run in runs_of(sight.entries[piece], sight.branches[piece]):
        if barred not in run:
            tally = entry_tally(sight, piece, run[0])
            choices = together(choices, choices_of_like(tally, len(run)))
    return choices


def code_tally(sight, piece):
    """The codes of a piece with all that hangs at it, seen from a neighbour ahead."""
    choices = choices_at(sight, piece, None)
    return with_hand(choices) if piece in sight.web.hubs else without_mark(choices)


def entry_tally(sight, piece, branch):
    """The entries of a branch at a piece that has a neighbour ahead."""
    if is_tied_stiffly(sight.web, piece, branch):
        return with_side(choices_at(sight, branch, None))
    return code_tally(sight, branch)


def tally_of_tree(web):
    """The whole codes of a tree: how many sorts, how many mirrorlike ones."""
    sight = plain_sight(web)
    if len(sight.core) == 1:
        return tally_of_piece(sight, sight.core[0])
    return tally_of_tie(sight, sight.core[0], sight.core[1])


def tally_of_piece(sight, piece):
    """The codes of a whole tree with this middle piece."""
    stiff = [at for at in sight.branches[piece] if is_tied_stiffly(sight.web, piece, at)]
    if not stiff:
        return code_tally(sight, piece)
    beside = choices_at(sight, piece, stiff[0])
    return with_side(together(beside, choices_at(sight, stiff[0], None)))


def tally_of_tie(sight, low, high):
    """The codes of a whole tree with this middle tie."""
    is_stiff = is_tied_stiffly(sight.web, low, high)
    if are_like_halves(sight, low, high):
        choices = choices_at(sight, low, None)
        return tally_of_stiff_halves(choices) if is_stiff else unordered(code_tally(sight, low))
    if is_stiff:
        return with_side(together(choices_at(sight, low, None), choices_at(sight, high, None)))
    codes, kept = code_tally(sight, low)
    its_codes, its_kept = code_tally(sight, high)
    return (codes * its_codes, kept * its_kept)


def are_like_halves(sight, low, high):
    """Whether two pieces of a middle tie have one plain code, each seen from the other."""
    return (
        sight.web.kinds[low] == sight.web.kinds[high]
        and (low in sight.web.hubs) == (high in sight.web.hubs)
        and sight.entries[low] == sight.entries[high]
    )


def unordered(tally):
    """The codes of two halves with one plain code, taken without order."""
    codes, kept = tally
    return (with_repeats(codes, 2), with_repeats(kept, 2) + (codes - kept) // 2)


def tally_of_stiff_halves(choices):
    """The codes of two halves with one plain code, tied stiffly in the middle.

    Two halves that are mirror images of one another exchange in the mirror
    image, and their ends are turned both or neither: so both sides stay.
    """
    _, unlike, kept, even, odd = choices
    codes, alike = unordered((choices[0], kept))
    unlike_kept = even + odd
    two_sided = with_repeats(unlike, 2)
    sided_mirrored = (unlike - unlike_kept) // 2
    # Of two kept halves one with an odd number of mirrored pairs turns the side.
    two_kept = with_repeats(even, 2) + with_repeats(odd, 2)
    return (codes + two_sided, alike + sided_mirrored + two_kept - even * odd)
