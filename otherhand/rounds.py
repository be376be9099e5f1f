"""Rounds of marks, and the settings that a renaming of a web leaves."""

from otherhand.given import need_few_marks
from otherhand.leading import need_renaming
from otherhand.marks import marks_led, turns_of
from otherhand.webs import need_web


def need_own_renaming(web, row):
    need_web(web, "web")
    need_renaming(web, web, row, "row")


def rounds(web, row):
    """The rounds of a renaming: their marks, whether they are odd, and odd in the mirror."""
    need_own_renaming(web, row)
    return rounds_of(web, row)


def rounds_of(web, row):
    """As rounds, for what is known to be a renaming."""
    images = marks_led(web, web, row)
    turns = turns_of(web, row)
    found = []
    met = {}
    for first in range(len(images)):
        if first in met:
            continue
        marks = [first]
        while images[marks[-1]] != first:
            marks.append(images[marks[-1]])
        for mark in marks:
            met[mark] = True
        turned = len([mark for mark in marks if turns[mark] == -1])
        hands = len([mark for mark in marks if mark < len(web.hubs)])
        found.append((tuple(marks), turned % 2 == 1, (turned + hands) % 2 == 1))
    return tuple(found)


def left_by(web, row):
    """How many settings a renaming leaves."""
    return many_left(rounds(web, row))[0]


def left_in_mirror(web, row):
    """How many settings a renaming leaves in the mirror."""
    return many_left(rounds(web, row))[1]


def many_left(told):
    """How many settings such rounds leave, and how many in the mirror."""
    many = 1 << len(told)
    is_odd = any([odd for _, odd, _ in told])
    is_odd_in_mirror = any([odd for _, _, odd in told])
    return (0 if is_odd else many, 0 if is_odd_in_mirror else many)


def kept_settings(web, row):
    """The settings that a renaming leaves, ascending."""
    need_own_renaming(web, row)
    need_few_marks(web)
    return settings_kept(marks_led(web, web, row), turns_of(web, row))


def kept_in_mirror(web, row):
    """The settings that a renaming leaves in the mirror, ascending."""
    need_own_renaming(web, row)
    need_few_marks(web)
    hands = len(web.hubs)
    turns = [-turn if mark < hands else turn for mark, turn in enumerate(turns_of(web, row))]
    return settings_kept(marks_led(web, web, row), turns)


def settings_kept(images, turns):
    """The settings, ascending, that stay if marks are led to these images and so turned."""
    held = held_by_firsts(images, turns)
    if held is None:
        return ()
    settings = [()]
    # The first mark of a round is free, and ahead of all that hang on it: so they ascend.
    for mark, (first, sign) in enumerate(held):
        if first == mark:
            settings = [setting + (free,) for setting in settings for free in (-1, 1)]
        else:
            settings = [setting + (sign * setting[first],) for setting in settings]
    return tuple(settings)


def held_by_firsts(images, turns):
    """For each mark the first one of its round, and 1 if it must be like that one, otherwise -1.

    None if a round comes back to its first mark turned: then no setting stays.
    """
    held = [None] * len(images)
    for first in range(len(images)):
        mark = first
        sign = 1
        while held[mark] is None:
            held[mark] = (first, sign)
            sign = sign * turns[mark]
            mark = images[mark]
        if sign == -1:
            return None
    return held
