"""Shelves: what a desk keeps."""

from otherhand.bodies import Body
from otherhand.checks import first_twice, is_name
from otherhand.errors import BadDesk, BadSaying, NoName, Twice
from otherhand.sayings import Told
from otherhand.webs import need_web


def is_named_body(value):
    """Whether a value is a pair of a name and a Body."""
    if not isinstance(value, (list, tuple)) or len(value) != 2:
        return False
    return is_name(value[0]) and isinstance(value[1], Body)


def need_bodies(bodies):
    if not isinstance(bodies, (list, tuple)) or not all([is_named_body(pair) for pair in bodies]):
        raise BadDesk("bodies")
    twice = first_twice([name for name, _ in bodies])
    if twice is not None:
        raise Twice(twice)


def need_sayings_about(about, sayings):
    """Asks for sayings that can be told of a body of this web; for none if it is None."""
    if about is None:
        if not isinstance(sayings, (list, tuple)) or len(sayings) > 0:
            raise BadSaying("sayings")
    else:
        need_web(about, "about")
        Told(about, sayings)


class Shelf:
    """Bodies under names; perhaps a web that is set, and sayings about a body of it."""

    def __init__(self, bodies=(), about=None, sayings=()):
        need_bodies(bodies)
        need_sayings_about(about, sayings)
        self.by_name = {name: body for name, body in bodies}
        self.bodies = tuple(self.by_name.items())
        self.names = tuple(self.by_name)
        self.about = about
        self.sayings = tuple(sayings)

    def __eq__(self, other):
        return (
            isinstance(other, Shelf)
            and self.bodies == other.bodies
            and self.about == other.about
            and self.sayings == other.sayings
        )

    def body(self, name):
        """The body that is kept under a name."""
        if not is_name(name) or name not in self.by_name:
            raise NoName(name)
        return self.by_name[name]


def need_shelf(value):
    if not isinstance(value, Shelf):
        raise BadDesk("shelf")


def shelf_of(by_name, about, sayings):
    """The shelf of these bodies, which come of another shelf, and of what is said.

    The bodies are not asked for once more, as there may be many of them.
    """
    found = Shelf((), about, sayings)
    found.by_name = by_name
    found.bodies = tuple(by_name.items())
    found.names = tuple(by_name)
    return found


def with_bodies(shelf, by_name):
    """The shelf with these bodies by their names instead of its own."""
    return shelf_of(by_name, shelf.about, shelf.sayings)


def with_told(shelf, told):
    """The shelf with the web that is set, and the sayings, of a Told."""
    return shelf_of(shelf.by_name, told.web, told.sayings)
