"""Checks of papers about turned marks and twists."""

from otherhand.checks import is_ascending_below, is_just
from otherhand.given import need_one_web
from otherhand.papers import class_name
from otherhand.renamings import is_renaming
from otherhand.sums import sum_of
from otherhand.turnings import Turns, need_two_bodies, unlike_by, unlike_lots
from otherhand.twists import Barred, By, need_two_bodies_and_twists


def shows_turns(one, other, value):
    """Whether a value is a Turns of any lot of as few marks as can be."""
    need_two_bodies(one, other)
    need_one_web(one, other)
    fewest = min([len(lot) for _, lot in unlike_lots(one, other)])
    if not isinstance(value, Turns) or class_name(value) != "Turns":
        return False
    if not is_ascending_below(value.lot, len(one.web.marks)) or len(value.lot) != fewest:
        return False
    return leads_turned(one, other, value.lot, value.row)


def leads_turned(one, other, lot, row):
    """Whether any value is a renaming that leads one with this lot turned to other."""
    return is_renaming(one.web, one.web, row) and unlike_by(one, other, row) == lot


def shows_led_by(one, other, twists, value):
    """Whether a value is a right By or Barred of two bodies and some twists."""
    need_two_bodies_and_twists(one, other, twists)
    unlike = unlike_lots(one, other)
    if isinstance(value, By) and class_name(value) == "By":
        if not is_ascending_below(value.numbers, len(twists)):
            return False
        lot = sum_of([twists[number] for number in value.numbers])
        return leads_turned(one, other, lot, value.row)
    if isinstance(value, Barred) and class_name(value) == "Barred":
        return are_barring_rows(len(one.web.marks), twists, unlike, value.rows)
    return False


def are_barring_rows(many, twists, unlike, rows):
    """Whether a value tells for each renaming it and a lot that bars the marks unlike by it."""
    if not isinstance(rows, tuple) or len(rows) != len(unlike):
        return False
    for told, (row, lot) in zip(rows, unlike):
        if not isinstance(told, tuple) or len(told) != 2 or not is_just(told[0], row):
            return False
        if not is_ascending_below(told[1], many) or not bars(told[1], twists, lot):
            return False
    return True


def bars(barring_lot, twists, lot):
    """Whether a lot has an even number of marks with each twist in common, an odd one with a lot."""
    if any([is_odd_between(barring_lot, twist) for twist in twists]):
        return False
    return is_odd_between(barring_lot, lot)


def is_odd_between(one, other):
    """Whether two lots have an odd number of marks in common."""
    return len([mark for mark in one if mark in other]) % 2 == 1
