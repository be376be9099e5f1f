"""What becomes of two mirror images that are joined to one helper."""

from otherhand.bodies import Body, need_body
from otherhand.given import need_marks_within, need_piece
from otherhand.joined import joined_setting, joined_web, need_room
from otherhand.placing import few_placements
from otherhand.refusing import found_or_refused
from otherhand.sorts import pairs_of
from otherhand.webs import need_web

MOST_MARKS_HELPED = 6


def helped(web, piece, helper, its):
    """For each handed pair of a web the two, and what comes of them joined to a helper."""
    need_web(web, "web")
    need_piece(web, piece)
    need_body(helper, "helper")
    need_piece(helper.web, its)
    need_room(web, piece, helper.web, its)
    both = joined_web(web, piece, helper.web, its)
    need_marks_within(web, MOST_MARKS_HELPED)
    pairs = pairs_of(web)
    if pairs:
        # Asked of the web that all these bodies have, once for all.
        few_placements(both, both)
    found = []
    for one, other in pairs:
        settings = [joined_setting(Body(web, sort), piece, helper, its) for sort in (one, other)]
        found.append((one, other, word_of(Body(both, settings[0]), Body(both, settings[1]))))
    return tuple(found)


def word_of(one, other):
    """The word for two bodies of one web, which has few ways to place the core."""
    row, _ = found_or_refused(one, other)
    if row is not None:
        return "one"
    row, _ = found_or_refused(one, other.mirrored())
    return "neither" if row is None else "mirror"
