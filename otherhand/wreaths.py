"""Wreaths: hubs in a loop, each with an upper and a lower end."""

from otherhand.bodies import Body
from otherhand.checks import is_within
from otherhand.errors import BadNumber, BadPicture, BadText
from otherhand.pictures import Picture
from otherhand.rungs import kept_rungs, need_rungs, read_rung, turned_rung, with_rung_turned
from otherhand.texts import items_of
from otherhand.webs import Web

FEWEST_RUNGS = 3
MOST_RUNGS = 5


class Wreath:
    """Rungs in a loop, each an upper end, a hub and a lower end."""

    def __init__(self, rungs):
        need_rungs(rungs, FEWEST_RUNGS, MOST_RUNGS)
        self.rungs = kept_rungs(rungs)

    def __eq__(self, other):
        return isinstance(other, Wreath) and self.rungs == other.rungs

    def __str__(self):
        return " / ".join([" ".join(rung) for rung in self.rungs])

    @staticmethod
    def read(text):
        """The wreath with this text."""
        items = items_of(text)
        rungs = [read_rung(items, 0)]
        at = 3
        while at < len(items):
            if items[at] != "/" or len(rungs) == MOST_RUNGS:
                raise BadText(0, at)
            rungs.append(read_rung(items, at + 1))
            at += 4
        if len(rungs) < FEWEST_RUNGS:
            raise BadText(0, at)
        return Wreath(rungs)

    def body(self):
        """The body: for each rung hub, upper and lower."""
        kinds = []
        ties = []
        for at, (upper, hub, lower) in enumerate(self.rungs):
            kinds = kinds + [hub, upper, lower]
            here = 3 * at
            ahead = 3 * ((at + 1) % len(self.rungs))
            ties = ties + [(here, here + 1), (here, here + 2), (here, ahead)]
        hands = [1] * len(self.rungs)
        # The first hub stands ahead of both its neighbours in the loop, the last one behind both.
        hands[0] = -1
        hands[-1] = -1
        return Body(Web(kinds, ties, wreath_hubs(len(self.rungs))), hands)

    def picture(self):
        """The picture: the upper ends are raised, the lower ones lowered."""
        hubs = wreath_hubs(len(self.rungs))
        rows = []
        for at, hub in enumerate(hubs):
            after = hubs[(at + 1) % len(hubs)]
            rows.append(([hubs[at - 1], hub + 1, hub + 2, after], hub + 1, hub + 2))
        return Picture(self.body().web, rows, [])

    def begun_at(self, rung):
        """The same wreath, begun at this rung."""
        need_rung(self, rung)
        return Wreath(self.rungs[rung:] + self.rungs[:rung])

    def exchanged(self, rung):
        """The wreath with upper and lower exchanged at a rung."""
        need_rung(self, rung)
        return Wreath(with_rung_turned(self.rungs, rung))

    def laid_over(self):
        """The wreath seen from below, the first rung still the first."""
        order = self.rungs[:1] + self.rungs[:0:-1]
        return Wreath([turned_rung(rung) for rung in order])

    def mirrored(self):
        """The wreath with upper and lower exchanged at all rungs."""
        return Wreath([turned_rung(rung) for rung in self.rungs])


def wreath_hubs(many):
    """The hubs of a wreath of so many rungs."""
    return [3 * at for at in range(many)]


def need_rung(wreath, rung):
    if not is_within(rung, 0, len(wreath.rungs) - 1):
        raise BadNumber("rung")


def need_wreath(value, part):
    if not isinstance(value, Wreath):
        raise BadPicture(part)


def ways_between(one, other):
    """All pairs of a rung and of a truth: one, begun there, laid over or not, is the other."""
    need_wreath(one, "one")
    need_wreath(other, "other")
    found = []
    for rung in range(len(one.rungs)):
        begun = one.begun_at(rung)
        if begun == other:
            found.append((rung, False))
        if begun.laid_over() == other:
            found.append((rung, True))
    return tuple(found)
