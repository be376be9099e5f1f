"""How marks are told by an order, and how branches are coded.

A setting of None stands for plain codes, in which no mark is told.
"""

from otherhand.checks import is_odd
from otherhand.marks import hub_mark, tie_mark


def told_hand(web, setting, hub, order):
    """The hand of a hub, told by an order of its neighbours."""
    hand = setting[hub_mark(web, hub)]
    return -hand if is_odd(order) else hand


def told_side(web, setting, tie, firsts):
    """The side of a stiff tie, told by a first one among the others of each end."""
    side = setting[tie_mark(web, tie)]
    for first, others in zip(firsts, web.others(tie)):
        if first != others[0]:
            side = -side
    return side


def tie_of(one, other):
    """The tie of two pieces, as an ascending pair."""
    return (min(one, other), max(one, other))


def is_tied_stiffly(web, one, other):
    """1 if the tie of two pieces is stiff, otherwise 0."""
    return 1 if tie_of(one, other) in web.stiff else 0


def bond(web, one, other):
    """How two pieces are tied: 0 not at all, 1 not stiffly, 2 stiffly."""
    return 1 + is_tied_stiffly(web, one, other) if other in web.near[one] else 0


def has_like(entries):
    """Whether two of some entries, in their order, are equal."""
    return any([one == other for one, other in zip(entries, entries[1:])])


def descending(pairs):
    """The entries and the branches of pairs of both, by entries, descending."""
    ordered = sorted(pairs, key=lambda pair: pair[0], reverse=True)
    return tuple([pair[0] for pair in ordered]), tuple([pair[1] for pair in ordered])


def branch_code(web, setting, piece, ahead, ranks):
    """The code of a branch, or without a neighbour ahead of a whole tree.

    Ranks gets for each piece of it the entries behind it and their branches.
    """
    codes = {}
    for child in web.near[piece]:
        if child != ahead:
            codes[child] = branch_code(web, setting, child, piece, ranks)
    pairs = []
    for child in codes:
        first = first_beside(ahead, codes, child)
        pairs.append((branch_entry(web, setting, (piece, child), first, codes[child], ranks), child))
    entries, children = descending(pairs)
    ranks[piece] = (entries, children)
    hub = 1 if piece in web.hubs else 0
    sign = 0
    if setting is not None and hub and not has_like(entries):
        order = list(children) if ahead is None else [ahead, *children]
        sign = told_hand(web, setting, piece, order)
    return (web.kinds[piece], hub, entries, sign)


def first_beside(ahead, codes, child):
    """The first one of a piece beside this branch of it, None between equal ones."""
    if ahead is not None:
        return ahead
    # No other tie of an end of a stiff tie is stiff, so codes rank as entries do.
    others, pieces = descending([(codes[other], other) for other in codes if other != child])
    return None if has_like(others) or not pieces else pieces[0]


def branch_entry(web, setting, ends, first, code, ranks):
    """The entry of a branch: ends are its neighbour ahead, with this first one, and its piece."""
    if not is_tied_stiffly(web, ends[0], ends[1]):
        return (code, 0, 0)
    entries, children = ranks[ends[1]]
    if setting is None or first is None or has_like(entries):
        return (code, 1, 0)
    firsts = {ends[0]: first, ends[1]: children[0]}
    tie = tie_of(ends[0], ends[1])
    return (code, 1, told_side(web, setting, tie, [firsts[end] for end in tie]))
