"""Checks of papers about what is told in part."""

from otherhand.answers import (
    NeverSummed,
    NeverTried,
    NoBody,
    Open,
    Summed,
    Tried,
    need_asked,
    signs_by,
)
from otherhand.checks import is_ascending_below
from otherhand.given import is_setting
from otherhand.holding import all_truths, is_tried_tree
from otherhand.orbits import number_of
from otherhand.papers import class_name
from otherhand.sayings import Product, need_told
from otherhand.sums import sum_of


def shows_judged(told, saying, value):
    """Whether a value is a right Summed, NeverSummed, Tried, NeverTried or Open."""
    need_asked(told, saying)
    truths = all_truths(told.web, [*told.sayings, saying])
    if isinstance(value, Summed) and class_name(value) == "Summed":
        return adds_up_to(told, saying, 1, value.numbers)
    if isinstance(value, NeverSummed) and class_name(value) == "NeverSummed":
        return adds_up_to(told, saying, -1, value.numbers)
    many = len(told.web.marks)
    if isinstance(value, Tried) and class_name(value) == "Tried":
        contrary = [not truth for truth in truths[-1]]
        sayings = [*told.sayings, saying.contrary()]
        return is_tried_tree(value.tree, sayings, [*truths[:-1], contrary], many)
    if isinstance(value, NeverTried) and class_name(value) == "NeverTried":
        return is_tried_tree(value.tree, [*told.sayings, saying], truths, many)
    if isinstance(value, Open) and class_name(value) == "Open":
        return fits_so(told, truths, value.one, True) and fits_so(told, truths, value.other, False)
    return False


def adds_up_to(told, saying, turn, numbers):
    """Whether any value tells products whose sum is the asked lot, with the asked sign so turned."""
    if not isinstance(saying, Product) or not is_ascending_below(numbers, len(told.sayings)):
        return False
    if not all([isinstance(told.sayings[number], Product) for number in numbers]):
        return False
    if sum_of([told.sayings[number].lot for number in numbers]) != saying.lot:
        return False
    return signs_by(told, numbers) == saying.sign * turn


def fits_so(told, truths, setting, is_so):
    """Whether any value is a setting that fits what is told, and in which the last truth is so."""
    if not is_setting(told.web, setting):
        return False
    number = number_of(setting)
    return all([held[number] for held in truths[:-1]]) and truths[-1][number] == is_so


def shows_no_body(told, value):
    """Whether a value is a right NoBody of what is told."""
    need_told(told)
    truths = all_truths(told.web, told.sayings)
    if not isinstance(value, NoBody) or class_name(value) != "NoBody":
        return False
    return is_tried_tree(value.tree, told.sayings, truths, len(told.web.marks))
