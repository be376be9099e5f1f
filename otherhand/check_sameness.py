"""Checks of papers about sameness: rows are led, trees are read."""

from otherhand.bodies import need_body
from otherhand.check_renamings import is_refusing, leads_to
from otherhand.papers import class_name
from otherhand.sameness import Handed, MirrorOf, Mirrorlike, Neither, One


def shows_same(one, other, value):
    """Whether a value is a right One, MirrorOf or Neither of two bodies."""
    need_body(one, "one")
    need_body(other, "other")
    if isinstance(value, One) and class_name(value) == "One":
        return leads_to(one, other, value.row)
    image = other.mirrored()
    if isinstance(value, MirrorOf) and class_name(value) == "MirrorOf":
        return leads_to(one, image, value.row)
    if isinstance(value, Neither) and class_name(value) == "Neither":
        return is_refusing(one, other, value.tree) and is_refusing(one, image, value.mirrored)
    return False


def shows_mirrorlike(body, value):
    """Whether a value is a right Mirrorlike or Handed of a body."""
    need_body(body, "body")
    image = body.mirrored()
    if isinstance(value, Mirrorlike) and class_name(value) == "Mirrorlike":
        return leads_to(body, image, value.row)
    if isinstance(value, Handed) and class_name(value) == "Handed":
        return is_refusing(body, image, value.tree)
    return False
