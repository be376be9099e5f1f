"""Works: rows by which shares of some sorts are twisted, one row behind another."""

from math import lcm

from otherhand.checks import is_numbers, lowest
from otherhand.errors import BadWork
from otherhand.given import is_setting, need_lot, need_marks_within, need_one_web
from otherhand.mixtures import mixture_of, need_mixture
from otherhand.orbits import bits_of_lot, number_of
from otherhand.papers import Denial, Paper
from otherhand.partings import Parting
from otherhand.shares import add_to, in_whole_parts, is_balanced_by, is_share
from otherhand.webs import need_web

MOST_ROWS = 8
MOST_MARKS_OF_WORKS = 8


class Handless(Paper):
    """A work makes mirror images of mirror images."""

    def __init__(self):
        super().__init__("handless")


class HandedAt(Denial):
    """A sort of whose mirror image a work does not make the mirror image."""

    def __init__(self, setting):
        super().__init__("handedat", setting)
        self.setting = self.parts[0]


class KeepsBalance(Paper):
    """A work makes balanced mixtures of balanced ones."""

    def __init__(self):
        super().__init__("keepsbalance")


class Upsets(Denial):
    """A sort of which, with half its mirror image, a work makes what is not balanced."""

    def __init__(self, setting):
        super().__init__("upsets", setting)
        self.setting = self.parts[0]


def is_whom(web, value):
    """Whether a value tells which sorts are meant."""
    if value is None:
        return True
    if not isinstance(value, (list, tuple)) or len(value) != 2:
        return False
    word, setting = value
    return isinstance(word, str) and word in ("one", "either") and is_setting(web, setting)


def is_work_row(web, value):
    """Whether a value is a triple of a whom, a share and a list of integers."""
    if not isinstance(value, (list, tuple)) or len(value) != 3:
        return False
    whom, share, lot = value
    return is_whom(web, whom) and is_share(share) and is_numbers(lot)


def need_work_rows(web, rows):
    if not isinstance(rows, (list, tuple)) or not 1 <= len(rows) <= MOST_ROWS:
        raise BadWork("rows")
    if not all([is_work_row(web, row) for row in rows]):
        raise BadWork("rows")
    for row in rows:
        need_lot(web, row[2], "rows")


def kept_row(row):
    """A row as a work keeps it: tuples, the lot ascending."""
    whom, share, lot = row
    kept_whom = None if whom is None else (whom[0], tuple(whom[1]))
    return (kept_whom, tuple(share), tuple(sorted(lot)))


class Work:
    """One to eight rows of whom, share and lot."""

    def __init__(self, web, rows):
        need_web(web, "web")
        need_work_rows(web, rows)
        need_marks_within(web, MOST_MARKS_OF_WORKS)
        self.web = web
        self.rows = tuple([kept_row(row) for row in rows])
        self.parting = Parting(web)

    def __eq__(self, other):
        return isinstance(other, Work) and self.web == other.web and self.rows == other.rows

    def after(self, mixture):
        """The mixture that the work makes of one."""
        need_mixture(mixture, "mixture")
        need_one_web(self, mixture)
        found = done(deeds_of(self), in_whole_parts(mixture.by_sort))
        whole = sum([found[sort] for sort in found])
        shares = {sort: lowest(found[sort], whole) for sort in found}
        return mixture_of(self.web, self.parting, shares)


def meant_by(parting, whom):
    """The sorts that are meant."""
    if whom is None:
        return list(parting.parts)
    word, setting = whom
    sort = parting.least[number_of(setting)]
    return [sort] if word == "one" else [sort, parting.image_of(sort)]


def targets_of(parting, sort, bits):
    """For each sort that comes of one, these bits turned, of how many of its settings it comes."""
    found = {}
    for number in parting.parts[sort]:
        add_to(found, parting.least[number ^ bits], 1)
    return found


def deeds_of(work):
    """For each row of a work its share, and by the sorts that it means what comes of them.

    Ahead of it stands a number that each sort can be parted by evenly.
    """
    parting = work.parting
    shared = 1
    for sort in parting.parts:
        shared = lcm(shared, len(parting.parts[sort]))
    deeds = []
    for whom, share, lot in work.rows:
        bits = bits_of_lot(len(work.web.marks), lot)
        targets = {sort: targets_of(parting, sort, bits) for sort in meant_by(parting, whom)}
        deeds.append((shared, share, targets))
    return deeds


def done(deeds, amounts):
    """What deeds make of some amounts; the whole grows alike, whatever the amounts."""
    for shared, share, targets in deeds:
        found = {}
        for sort in amounts:
            amount = amounts[sort] * shared
            if sort in targets:
                twist_part(found, targets[sort], amount * share[0])
                amount = amount * (share[1] - share[0])
            else:
                amount = amount * share[1]
            add_to(found, sort, amount)
        amounts = found
    return amounts


def twist_part(found, targets, amount):
    """Parts an amount evenly over settings, and adds each part where it comes to."""
    part = amount // sum([targets[sort] for sort in targets])
    for sort in targets:
        add_to(found, sort, part * targets[sort])


def need_work(value):
    if not isinstance(value, Work):
        raise BadWork("work")


def handed_sorts(work):
    """The sorts, the lesser of each pair of mirror images, at which a work is not handless."""
    parting = work.parting
    deeds = deeds_of(work)
    found = []
    for sort in parting.parts:
        image = parting.image_of(sort)
        if sort <= image:
            made = done(deeds, {sort: 1})
            its = done(deeds, {image: 1})
            if {parting.image_of(at): made[at] for at in made} != its:
                found.append(sort)
    return found


def upset_sorts(work):
    """The sorts, the lesser of each pair of mirror images, of which what is not balanced comes."""
    parting = work.parting
    deeds = deeds_of(work)
    found = []
    for sort in parting.parts:
        image = parting.image_of(sort)
        if sort <= image and not is_balanced_by(parting, done(deeds, {sort: 1, image: 1})):
            found.append(sort)
    return found


def handless(work):
    """Whether a work makes of each mirror image the mirror image, or a sort where it does not."""
    need_work(work)
    found = handed_sorts(work)
    return HandedAt(work.parting.settings[found[0]]) if found else Handless()


def keeps_balance(work):
    """Whether a work keeps balance, or a sort of which what is not balanced comes."""
    need_work(work)
    found = upset_sorts(work)
    return Upsets(work.parting.settings[found[0]]) if found else KeepsBalance()
