"""Bodies joined by a further tie, and pieces taken off them."""

from otherhand.bodies import Body, need_body
from otherhand.errors import BadWeb
from otherhand.given import need_piece
from otherhand.texts import MOST_NEIGHBOURS
from otherhand.webs import Web


def stiff_ends(web):
    """The ends of the stiff ties of a web."""
    return [piece for tie in web.stiff for piece in tie]


def has_room(web, piece):
    """Whether a further neighbour can be tied to a piece."""
    near = web.near[piece]
    if piece in stiff_ends(web):
        return len(near) == 2
    return len(near) < MOST_NEIGHBOURS


def need_room(web, piece, other, its):
    """Asks whether these two pieces can be tied to one another."""
    if not has_room(web, piece) or not has_room(other, its):
        raise BadWeb("room")


def joined(one, piece, other, its):
    """The body of two, with a further tie from a piece of one to one of other."""
    need_body(one, "one")
    need_piece(one.web, piece)
    need_body(other, "other")
    need_piece(other.web, its)
    need_room(one.web, piece, other.web, its)
    web = joined_web(one.web, piece, other.web, its)
    return Body(web, joined_setting(one, piece, other, its))


def joined_web(one, piece, other, its):
    """The web of two; the pieces of other are numbered on behind those of one."""
    many = len(one)
    ties = [(low + many, high + many) for low, high in other.ties]
    stiff = [(low + many, high + many) for low, high in other.stiff]
    return Web(
        one.kinds + other.kinds,
        [*one.ties, *ties, (piece, its + many)],
        list(one.hubs) + [hub + many for hub in other.hubs],
        [*one.stiff, *stiff],
    )


def joined_setting(one, piece, other, its):
    """The setting of two bodies that are joined.

    The bare seat stands first. In one the new neighbour is the last one of the
    hub, behind three others; in other it is the first one, also at a stiff tie.
    """
    first = [-sign if hub == piece else sign for hub, sign in zip(one.web.hubs, one.setting)]
    second = [-sign if its in tie else sign for tie, sign in zip(other.web.stiff, sides(other))]
    return [*first, *hands(other), *sides(one), *second]


def hands(body):
    """The hands of a body, their hubs ascending."""
    return body.setting[:len(body.web.hubs)]


def sides(body):
    """The sides of a body, their ties ascending."""
    return body.setting[len(body.web.hubs):]


def taken_off(body, piece):
    """The body without this end piece and its tie."""
    need_body(body, "body")
    need_piece(body.web, piece)
    near = body.web.near[piece]
    if len(near) != 1:
        raise BadWeb("end")
    holder = near[0]
    if holder in stiff_ends(body.web) and len(body.web.near[holder]) == 2:
        raise BadWeb("stiff")
    web = web_without(body.web, piece, holder)
    return Body(web, setting_without(body, piece, holder))


def web_without(web, piece, holder):
    """The web without an end piece that this neighbour holds."""
    kept = [at for at in range(len(web)) if at != piece]
    places = {old: at for at, old in enumerate(kept)}
    stiff = [(places[low], places[high]) for low, high in web.stiff]
    return Web(
        [web.kinds[at] for at in kept],
        [(places[low], places[high]) for low, high in web.ties if piece not in (low, high)],
        [places[hub] for hub in web.hubs if hub != holder or len(web.near[hub]) > 3],
        stiff,
    )


def setting_without(body, piece, holder):
    """The setting of the body without an end piece that this neighbour holds."""
    web = body.web
    place = web.near[holder].index(piece)
    found = []
    for hub, sign in zip(web.hubs, hands(body)):
        if hub != holder:
            found.append(sign)
        elif len(web.near[hub]) == MOST_NEIGHBOURS:
            # The seat comes ahead of all: it passes those ahead of it.
            found.append(-sign if place & 1 else sign)
    for tie, sign in zip(web.stiff, sides(body)):
        others = [other for other in web.near[holder] if other not in tie]
        is_least = holder in tie and piece == others[0]
        found.append(-sign if is_least else sign)
    return found
