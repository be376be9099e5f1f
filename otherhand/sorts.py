"""The sorts of a web, and the marks that count."""

from otherhand.bodies import mirrored_setting, need_body, settings_of
from otherhand.checks import is_within
from otherhand.errors import BadNumber
from otherhand.given import need_mark, need_setting
from otherhand.orbits import least_numbers, number_of
from otherhand.papers import Paper
from otherhand.refusing import row_or_tree
from otherhand.webs import need_web


class Sway(Paper):
    """How a mark counts, a setting in which it does, and one in which it does not."""

    def __init__(self, how, counting, lacking):
        super().__init__("sway", how, counting, lacking)
        self.how = self.parts[0]
        self.counting = self.parts[1]
        self.lacking = self.parts[2]


def least_settings(web):
    """For each setting of a web, ascending, the pair of it and of the least of its sort."""
    settings = settings_of(web)
    least = least_numbers(web)
    return [(setting, settings[least[at]]) for at, setting in enumerate(settings)]


def sorts(web):
    """All sorts of a web, ascending, each told by its least setting."""
    need_web(web, "web")
    return tuple([setting for setting, least in least_settings(web) if setting == least])


def sorts_and_images(web):
    """For each sort of a web, ascending, the pair of it and of its mirror image."""
    least = {setting: sort for setting, sort in least_settings(web)}
    own = [setting for setting in least if setting == least[setting]]
    return [(sort, least[mirrored_setting(web, sort)]) for sort in own]


def mirrorlike_sorts(web):
    """The mirrorlike sorts of a web, ascending."""
    need_web(web, "web")
    return tuple([sort for sort, image in sorts_and_images(web) if sort == image])


def pairs_of(web):
    """The pairs of sorts of a web that are mirror images and not one, ascending."""
    need_web(web, "web")
    return tuple([(sort, image) for sort, image in sorts_and_images(web) if sort < image])


def sort_at(web, number):
    """The sort of a web with this number."""
    found = sorts(web)
    if not is_within(number, 0, len(found) - 1):
        raise BadNumber("number")
    return found[number]


def number_of_sort(web, setting):
    """The number of the sort of a setting."""
    need_web(web, "web")
    need_setting(web, setting, "setting")
    rows = least_settings(web)
    found = [one for one, least in rows if one == least]
    return found.index(rows[number_of(setting)][1])


def counts(body, mark):
    """Whether turning this mark alone makes another body."""
    need_body(body, "body")
    need_mark(body.web, mark)
    row, _ = row_or_tree(body, body.turned([mark]))
    return row is None


def where_it_counts(web, mark):
    """For each setting of a web, ascending, whether the mark counts in it."""
    least = {setting: sort for setting, sort in least_settings(web)}
    found = {}
    for setting in least:
        turned = setting[:mark] + (-setting[mark],) + setting[mark + 1:]
        found[setting] = least[turned] != least[setting]
    return found


def sway(web, mark):
    """Whether a mark counts in all bodies of a web, in some, or in none."""
    need_web(web, "web")
    need_mark(web, mark)
    does_count = where_it_counts(web, mark)
    counting = [setting for setting in does_count if does_count[setting]]
    lacking = [setting for setting in does_count if not does_count[setting]]
    return Sway(how_it_counts(counting, lacking), first_or_none(counting), first_or_none(lacking))


def first_or_none(settings):
    """The first of some settings, None if there is none."""
    return settings[0] if settings else None


def how_it_counts(counting, lacking):
    """The word for a mark that counts in some settings, and lacks in others."""
    if not lacking:
        return "firm"
    return "borrowed" if counting else "idle"
