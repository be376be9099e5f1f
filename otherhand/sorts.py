"""The sorts of a web, and the marks that count."""

from otherhand.bodies import need_body
from otherhand.checks import is_within
from otherhand.errors import BadNumber
from otherhand.given import need_mark, need_setting
from otherhand.orbits import bit_of, number_of
from otherhand.papers import Paper
from otherhand.partings import Parting
from otherhand.refusing import row_or_tree
from otherhand.webs import need_web


class Sway(Paper):
    """How a mark counts, a setting in which it does, and one in which it does not."""

    def __init__(self, how, counting, lacking):
        super().__init__("sway", how, counting, lacking)
        self.how = self.parts[0]
        self.counting = self.parts[1]
        self.lacking = self.parts[2]


def sorts(web):
    """All sorts of a web, ascending, each told by its least setting."""
    need_web(web, "web")
    parting = Parting(web)
    return tuple([parting.settings[sort] for sort in parting.parts])


def sorts_and_images(web):
    """For each sort of a web, ascending, the pair of it and of its mirror image."""
    parting = Parting(web)
    settings = parting.settings
    return [(settings[sort], settings[parting.image_of(sort)]) for sort in parting.parts]


def mirrorlike_sorts(web):
    """The mirrorlike sorts of a web, ascending."""
    need_web(web, "web")
    return tuple([sort for sort, image in sorts_and_images(web) if sort == image])


def pairs_of(web):
    """The pairs of sorts of a web that are mirror images and not one, ascending."""
    need_web(web, "web")
    return tuple([(sort, image) for sort, image in sorts_and_images(web) if sort < image])


def sort_at(web, number):
    """The sort of a web with this number."""
    found = sorts(web)
    if not is_within(number, 0, len(found) - 1):
        raise BadNumber("number")
    return found[number]


def number_of_sort(web, setting):
    """The number of the sort of a setting."""
    need_web(web, "web")
    need_setting(web, setting, "setting")
    parting = Parting(web)
    return list(parting.parts).index(parting.least[number_of(setting)])


def counts(body, mark):
    """Whether turning this mark alone makes another body."""
    need_body(body, "body")
    need_mark(body.web, mark)
    row, _ = row_or_tree(body, body.turned([mark]))
    return row is None


def where_it_counts(web, mark):
    """For each setting of a web, ascending, whether the mark counts in it."""
    parting = Parting(web)
    least = parting.least
    bit = bit_of(len(web.marks), mark)
    found = {}
    for number, setting in enumerate(parting.settings):
        found[setting] = least[number ^ bit] != least[number]
    return found


def sway(web, mark):
    """Whether a mark counts in all bodies of a web, in some, or in none."""
    need_web(web, "web")
    need_mark(web, mark)
    does_count = where_it_counts(web, mark)
    counting = [setting for setting in does_count if does_count[setting]]
    lacking = [setting for setting in does_count if not does_count[setting]]
    return Sway(how_it_counts(counting, lacking), first_or_none(counting), first_or_none(lacking))


def first_or_none(settings):
    """The first of some settings, None if there is none."""
    return settings[0] if settings else None


def how_it_counts(counting, lacking):
    """The word for a mark that counts in some settings, and lacks in others."""
    if not lacking:
        return "firm"
    return "borrowed" if counting else "idle"
