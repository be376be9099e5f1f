"""Letters of hubs and words of stiff ties: the names of a body."""

from otherhand.bodies import Body, mirrored_setting, need_body
from otherhand.coding import has_like, told_hand, told_side
from otherhand.errors import BadNames, Misfit
from otherhand.papers import Paper
from otherhand.ranks import need_tree, ranks_at
from otherhand.webs import need_web

NO_NAME = "-"
LETTERS_OF_HUBS = ("R", "L")
WORDS_OF_TIES = ("across", "with")


class Names(Paper):
    """The names of a body, and for each mark its neighbours as their branches rank."""

    def __init__(self, letters, ranks):
        super().__init__("names", letters, ranks)
        self.letters = self.parts[0]
        self.ranks = self.parts[1]


def ends_of_marks(web):
    """For each mark the pieces at which its branches are: of a hub itself, of a stiff tie both."""
    return [(hub,) for hub in web.hubs] + list(web.stiff)


def words_of_mark(web, mark):
    """What a mark is named for -1 and for 1."""
    return LETTERS_OF_HUBS if mark < len(web.hubs) else WORDS_OF_TIES


def sign_told(web, setting, mark):
    """A mark told by the ranks of its branches, 0 if two of one piece rank alike."""
    firsts = []
    for end in ends_of_marks(web)[mark]:
        ranks, branches = ranks_at(web, setting, end)
        if has_like(ranks):
            return 0
        firsts.append(branches[0])
    if mark < len(web.hubs):
        return told_hand(web, setting, web.hubs[mark], branches)
    return told_side(web, setting, web.marks[mark], firsts)


def names_in(web, setting):
    """The names of the body of a web with this setting."""
    names = []
    for mark in range(len(web.marks)):
        sign = sign_told(web, setting, mark)
        low, high = words_of_mark(web, mark)
        names.append(NO_NAME if sign == 0 else high if sign == 1 else low)
    return tuple(names)


def letters(body):
    """The names of a body."""
    need_body(body, "body")
    need_tree(body.web)
    return names_in(body.web, body.setting)


def stays(body):
    """For each name of a body whether it stays in the mirror image."""
    names = letters(body)
    image = names_in(body.web, mirrored_setting(body.web, body.setting))
    return tuple([name == its for name, its in zip(names, image)])


def names_of(body):
    """The Names of a body."""
    names = letters(body)
    rows = []
    for ends in ends_of_marks(body.web):
        orders = [ranks_at(body.web, body.setting, end)[1] for end in ends]
        rows.append(orders[0] if len(orders) == 1 else orders)
    return Names(names, rows)


def need_names(web, value):
    if not isinstance(value, (list, tuple)) or len(value) != len(web.marks):
        raise BadNames("letters")
    for mark, name in enumerate(value):
        if not isinstance(name, str) or name not in (NO_NAME, *words_of_mark(web, mark)):
            raise BadNames("letters")


def body_by(web, letters):
    """The body of the web, and of the least setting, that has these names."""
    need_web(web, "web")
    need_names(web, letters)
    need_tree(web)
    names = tuple(letters)
    setting = tuple([-1] * len(web.marks))
    # No rank within branches that rank alike by plain codes hangs on the mark
    # beside them: so marks that hang on no others come right first, then those
    # that hang on these, and each round at least one more.
    for _ in web.marks:
        setting = setting_by(web, names, setting)
    if names_in(web, setting) != names:
        raise Misfit("letters")
    return Body(web, setting)


def setting_by(web, names, setting):
    """The setting in which each mark has its name, by the ranks as they are in a setting."""
    found = []
    for mark, name in enumerate(names):
        told = sign_told(web, setting, mark)
        if name == NO_NAME or told == 0:
            found.append(-1)
            continue
        asked = words_of_mark(web, mark).index(name) * 2 - 1
        found.append(setting[mark] * told * asked)
    return tuple(found)
