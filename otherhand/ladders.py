"""Ladders: hubs below one another, each with an end to the left and to the right."""

from otherhand.bodies import Body
from otherhand.checks import is_within
from otherhand.errors import BadNumber, BadPicture, BadText
from otherhand.pictures import Picture
from otherhand.rungs import (
    kept_rungs,
    need_kind,
    need_rungs,
    need_slash,
    read_kind,
    read_rung,
    turned_rung,
    with_rung_turned,
)
from otherhand.texts import items_of
from otherhand.webs import Web

MOST_RUNGS = 4
STEPS = ("bottom", "half", "top")


class Ladder:
    """A top, rungs from above, each a left end, a hub and a right end, and a bottom."""

    def __init__(self, top, rungs, bottom):
        need_kind(top, "top")
        need_rungs(rungs, 1, MOST_RUNGS)
        need_kind(bottom, "bottom")
        self.top = top
        self.rungs = kept_rungs(rungs)
        self.bottom = bottom

    def __eq__(self, other):
        return (
            isinstance(other, Ladder)
            and self.top == other.top
            and self.rungs == other.rungs
            and self.bottom == other.bottom
        )

    def __str__(self):
        return " ".join(ladder_items(self.top, self.rungs, self.bottom))

    @staticmethod
    def read(text):
        """The ladder with this text."""
        items = items_of(text)
        top = read_kind(items, 0)
        need_slash(items, 1)
        rungs = []
        at = 2
        # Behind a rung a kind is the bottom if it is the last item, else a left end.
        while not rungs or at != len(items) - 1:
            if len(rungs) == MOST_RUNGS:
                read_kind(items, at)
                raise BadText(0, at + 1)
            rungs.append(read_rung(items, at))
            need_slash(items, at + 3)
            at += 4
        return Ladder(top, rungs, read_kind(items, at))

    def body(self):
        """The body: the top, for each rung hub, left, right, then the bottom."""
        kinds = [self.top]
        for left, hub, right in self.rungs:
            kinds = kinds + [hub, left, right]
        web = Web([*kinds, self.bottom], ladder_ties(len(self.rungs)), ladder_hubs(len(self.rungs)))
        return Body(web, [1] * len(self.rungs))

    def picture(self):
        """The picture: the right ends alone are raised."""
        rows = []
        for above, hub, below in ladder_rows(len(self.rungs)):
            rows.append(([above, hub + 2, below, hub + 1], hub + 2, None))
        return Picture(self.body().web, rows, [])

    def half_about(self):
        """The ladder laid half about on the paper."""
        return Ladder(self.bottom, [turned_rung(rung) for rung in self.rungs[::-1]], self.top)

    def exchanged(self, rung):
        """The ladder with left and right exchanged at a rung."""
        if not is_within(rung, 0, len(self.rungs) - 1):
            raise BadNumber("rung")
        return Ladder(self.top, with_rung_turned(self.rungs, rung), self.bottom)

    def mirrored(self):
        """The ladder with left and right exchanged at all rungs."""
        return Ladder(self.top, [turned_rung(rung) for rung in self.rungs], self.bottom)

    def rolled(self, end):
        """The ladder with the three ends of the first or the last rung moved round."""
        if not isinstance(end, str) or end not in ("top", "bottom"):
            raise BadPicture("end")
        if end == "top":
            left, hub, right = self.rungs[0]
            return Ladder(left, [(right, hub, self.top), *self.rungs[1:]], self.bottom)
        left, hub, right = self.rungs[-1]
        return Ladder(self.top, [*self.rungs[:-1], (right, hub, self.bottom)], left)


def ladder_items(top, rungs, bottom):
    """The items that tell a ladder."""
    items = [top, "/"]
    for rung in rungs:
        items = items + [*rung, "/"]
    return [*items, bottom]


def ladder_hubs(many):
    """The hubs of a ladder of so many rungs."""
    return [1 + 3 * at for at in range(many)]


def ladder_rows(many):
    """For each rung the pieces above, at, and below its hub."""
    hubs = ladder_hubs(many)
    line = [0, *hubs, 1 + 3 * many]
    return [(line[at], hub, line[at + 2]) for at, hub in enumerate(hubs)]


def ladder_ties(many):
    """The ties of a ladder of so many rungs."""
    ties = [(0, 1)]
    for _, hub, below in ladder_rows(many):
        ties = ties + [(hub, hub + 1), (hub, hub + 2), (hub, below)]
    return ties


def need_ladder(value, part):
    if not isinstance(value, Ladder):
        raise BadPicture(part)


def steps_between(one, other):
    """The first of the shortest tuples of steps from one ladder to the other, or None."""
    need_ladder(one, "one")
    need_ladder(other, "other")
    steps = {str(one): ()}
    reached = [one]
    # Told from the first to the last, so the least tuple to each ladder comes first.
    while reached:
        ladder = reached.pop(0)
        for step in STEPS:
            further = ladder.half_about() if step == "half" else ladder.rolled(step)
            if str(further) not in steps:
                steps[str(further)] = (*steps[str(ladder)], step)
                reached.append(further)
    return steps.get(str(other))
