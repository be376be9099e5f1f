"""Deed lines: what they make of a shelf, and their answers."""

from otherhand.checks import first_twice
from otherhand.desk_given import given_line, need_number, told_on
from otherhand.desk_lines import DEEDS
from otherhand.errors import Twice
from otherhand.joined import joined, taken_off
from otherhand.sayings import Told
from otherhand.shelves import with_bodies, with_told
from otherhand.turnings import exchanged


def changed(shelf, line):
    """The pair of the shelf behind a deed line, and of the answer."""
    word, *told = given_line(shelf, line, DEEDS)
    deed = DONE_BY[word]
    return deed(shelf, *told)


def with_new(shelf, name, body):
    """The shelf with a further body, and how many bodies it keeps then."""
    found = with_bodies(shelf, {**shelf.by_name, name: body})
    return found, str(len(found.names))


def with_changed(shelf, name, body):
    """The shelf with this body instead of the one under this name, and the text of it."""
    # A key that is there already keeps its place.
    return with_bodies(shelf, {**shelf.by_name, name: body}), str(body)


def with_kind(shelf, name, piece, kind):
    return with_changed(shelf, name, shelf.body(name).with_kind(piece, kind))


def with_turned(shelf, name, *lot):
    return with_changed(shelf, name, shelf.body(name).turned(lot))


def with_mirrored(shelf, name):
    return with_changed(shelf, name, shelf.body(name).mirrored())


def with_exchanged(shelf, name, hub, one, other):
    return with_changed(shelf, name, exchanged(shelf.body(name), hub, one, other))


def with_taken_off(shelf, name, piece):
    return with_changed(shelf, name, taken_off(shelf.body(name), piece))


def with_joined(shelf, name, one, piece, other, its):
    return with_new(shelf, name, joined(shelf.body(one), piece, shelf.body(other), its))


def without(shelf, name):
    """The shelf without the body under a name, and how many bodies it keeps then."""
    left = {kept: shelf.by_name[kept] for kept in shelf.names if kept != name}
    return with_bodies(shelf, left), str(len(left))


def with_web_set(shelf, name):
    """The shelf with the web of a body set, and how many marks it has."""
    web = shelf.body(name).web
    return with_told(shelf, Told(web)), str(len(web.marks))


def with_saying(shelf, saying):
    """The shelf with one more saying, and its number."""
    return with_told(shelf, told_on(shelf).with_saying(saying)), str(len(shelf.sayings))


def with_struck(shelf, *numbers):
    """The shelf without the sayings with these numbers, and how many are left."""
    for number in numbers:
        need_number(shelf, number)
    twice = first_twice(numbers)
    if twice is not None:
        raise Twice(twice)
    left = [saying for at, saying in enumerate(shelf.sayings) if at not in numbers]
    return with_told(shelf, Told(shelf.about, left)), str(len(left))


DONE_BY = {
    "put": with_new,
    "kind": with_kind,
    "turn": with_turned,
    "mirror": with_mirrored,
    "exchange": with_exchanged,
    "off": with_taken_off,
    "join": with_joined,
    "drop": without,
    "about": with_web_set,
    "tell": with_saying,
    "strike": with_struck,
}
