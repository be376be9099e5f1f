"""Rounds of marks, and the settings that a renaming of a web leaves."""

from otherhand.bodies import mirrored_setting, settings_of
from otherhand.leading import need_renaming
from otherhand.marks import led_setting, marks_led, turns_of
from otherhand.webs import need_web


def need_own_renaming(web, row):
    need_web(web, "web")
    need_renaming(web, web, row, "row")


def rounds(web, row):
    """The rounds of a renaming: their marks, whether they are odd, and odd in the mirror."""
    need_own_renaming(web, row)
    return rounds_of(web, row)


def rounds_of(web, row):
    """As rounds, for what is known to be a renaming."""
    images = marks_led(web, web, row)
    turns = turns_of(web, row)
    found = []
    met = {}
    for first in range(len(images)):
        if first in met:
            continue
        marks = [first]
        while images[marks[-1]] != first:
            marks.append(images[marks[-1]])
        for mark in marks:
            met[mark] = True
        turned = len([mark for mark in marks if turns[mark] == -1])
        hands = len([mark for mark in marks if mark < len(web.hubs)])
        found.append((tuple(marks), turned % 2 == 1, (turned + hands) % 2 == 1))
    return tuple(found)


def left_by(web, row):
    """How many settings a renaming leaves."""
    return many_left(rounds(web, row))[0]


def left_in_mirror(web, row):
    """How many settings a renaming leaves in the mirror."""
    return many_left(rounds(web, row))[1]


def many_left(told):
    """How many settings such rounds leave, and how many in the mirror."""
    many = 1 << len(told)
    is_odd = any([odd for _, odd, _ in told])
    is_odd_in_mirror = any([odd for _, _, odd in told])
    return (0 if is_odd else many, 0 if is_odd_in_mirror else many)


def kept_settings(web, row):
    """The settings that a renaming leaves, ascending."""
    need_own_renaming(web, row)
    kept = [one for one in settings_of(web) if led_setting(web, web, row, one) == one]
    return tuple(kept)


def kept_in_mirror(web, row):
    """The settings that a renaming leaves in the mirror, ascending."""
    need_own_renaming(web, row)
    kept = []
    for setting in settings_of(web):
        if led_setting(web, web, row, setting) == mirrored_setting(web, setting):
            kept.append(setting)
    return tuple(kept)
