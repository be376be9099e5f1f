"""Texts of webs and bodies: how they are written, and read item by item.

A web writes * for each hub and = for each stiff tie, a body + or - for both.
"""

from otherhand.checks import is_name
from otherhand.errors import BadText

DIGITS = "0123456789"
LONGEST_NUMBER = 60
MOST_PIECES = 16
MOST_NEIGHBOURS = 4


def told_items(kinds, ties, hub_signs, tie_signs):
    """The items that tell kinds and ties, with signs by hubs and by stiff ties."""
    items = [kind + hub_signs.get(piece, "") for piece, kind in enumerate(kinds)]
    items.append(":")
    for at, tie in enumerate(ties):
        if at > 0:
            items.append("/")
        items.append(str(tie[0]))
        if tie in tie_signs:
            items.append(tie_signs[tie])
        items.append(str(tie[1]))
    return items


def items_of(text):
    """The items of any value."""
    if not isinstance(text, str):
        raise BadText(0, 0)
    return text.split(" ")


def told_number(item):
    """The integer from 0 on that an item tells, None if it tells none."""
    if not 1 <= len(item) <= LONGEST_NUMBER or not all([sign in DIGITS for sign in item]):
        return None
    if item[0] == "0" and len(item) > 1:
        return None
    return int(item)


def read_parts(text, hub_signs, tie_signs):
    """What a text tells: kinds, ties, and the signs by hubs and by stiff ties.

    Raises BadText for all that can be seen before the whole is there.
    """
    items = items_of(text)
    kinds, hubs = read_kinds(items, hub_signs)
    ties, stiff = read_ties(items, len(kinds), tie_signs)
    return kinds, ties, hubs, stiff


def read_kinds(items, signs):
    """The kinds ahead of the colon, and the signs by hubs."""
    kinds = []
    hubs = {}
    for at, item in enumerate(items):
        if item == ":" and kinds:
            return kinds, hubs
        sign = item[-1:]
        kind = item[:-1] if sign in signs else item
        if len(kinds) == MOST_PIECES or not is_name(kind):
            raise BadText(0, at)
        if sign in signs:
            hubs[len(kinds)] = sign
        kinds.append(kind)
    raise BadText(0, len(items))


def read_ties(items, many, signs):
    """The ties behind the colon, and the signs by stiff ties."""
    ties = []
    stiff = {}
    met = [0] * many
    at = many + 1
    # A web of one piece has no ties, any other one has some.
    if many == 1 and at < len(items):
        raise BadText(0, at)
    while many > 1:
        ahead = ties[-1] if ties else (0, 0)
        first = read_piece(items, at, ahead[0], met)
        at += 1
        sign = items[at] if at < len(items) and items[at] in signs else None
        if sign is not None:
            at += 1
        second = read_piece(items, at, least_second(first, ahead), met)
        at += 1
        ties.append((first, second))
        if sign is not None:
            stiff[(first, second)] = sign
        met[first] += 1
        met[second] += 1
        if at == len(items):
            break
        if items[at] != "/":
            raise BadText(0, at)
        at += 1
    return ties, stiff


def least_second(first, ahead):
    """The least second piece of a tie with this first one, behind the tie ahead."""
    if first == ahead[0]:
        return max(first, ahead[1]) + 1
    return first + 1


def read_piece(items, at, least, met):
    """The piece told by an item, from least on, with room for a neighbour."""
    piece = told_number(items[at]) if at < len(items) else None
    if piece is None or not least <= piece < len(met) or met[piece] == MOST_NEIGHBOURS:
        raise BadText(0, at)
    return piece
