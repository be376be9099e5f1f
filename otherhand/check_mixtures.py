"""Checks of papers about works."""

from otherhand.given import is_setting
from otherhand.orbits import number_of
from otherhand.papers import class_name
from otherhand.works import (
    HandedAt,
    Handless,
    KeepsBalance,
    Upsets,
    handed_sorts,
    need_work,
    upset_sorts,
)


def is_any_sort_of(work, setting, sorts):
    """Whether any value is a setting of one of these sorts, or of a mirror image of one.

    Of two mirror images just the lesser sort is among these.
    """
    if not is_setting(work.web, setting):
        return False
    sort = work.parting.least[number_of(setting)]
    return sort in sorts or work.parting.image_of(sort) in sorts


def shows_handless(work, value):
    """Whether a value is a right Handless or HandedAt of a work."""
    need_work(work)
    if isinstance(value, Handless) and class_name(value) == "Handless":
        return not handed_sorts(work)
    if isinstance(value, HandedAt) and class_name(value) == "HandedAt":
        return is_any_sort_of(work, value.setting, handed_sorts(work))
    return False


def shows_balance(work, value):
    """Whether a value is a right KeepsBalance or Upsets of a work."""
    need_work(work)
    if isinstance(value, KeepsBalance) and class_name(value) == "KeepsBalance":
        return not upset_sorts(work)
    if isinstance(value, Upsets) and class_name(value) == "Upsets":
        return is_any_sort_of(work, value.setting, upset_sorts(work))
    return False
