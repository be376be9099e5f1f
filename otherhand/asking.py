"""Which sayings are enough, and which mark to look at next."""

from otherhand.answers import need_asked, need_some
from otherhand.holding import all_truths, numbers_fitting, truths_by
from otherhand.orbits import bit_of
from otherhand.partings import Parting
from otherhand.sayings import need_told
from otherhand.sums import choices_of


def fewest_sayings(told, saying):
    """The numbers of the fewest told sayings by which the asked one is sure, or None."""
    need_asked(told, saying)
    truths = all_truths(told.web, [*told.sayings, saying])
    need_some(told, truths[:-1], numbers_fitting(told.web, truths[:-1]))
    held = [mask_of_truths(its) for its in truths]
    asked = held.pop()
    for choice in choices_of(len(held)):
        left = (1 << len(truths[-1])) - 1
        for number in choice:
            left = left & held[number]
        # All settings that are left must be among those in which the asked one holds.
        if left & asked == left:
            return choice
    return None


def mask_of_truths(truths):
    """An integer with a bit for each of some truths."""
    return sum([1 << at for at, truth in enumerate(truths) if truth])


def best_mark(told):
    """The mark to look at, and how many sorts are left then at most; None without marks."""
    need_told(told)
    parting = Parting(told.web)
    truths = truths_by(told.web, told.sayings, parting)
    numbers = numbers_fitting(told.web, truths)
    need_some(told, truths, numbers)
    found = None
    for mark in range(len(told.web.marks)):
        many = most_sorts_left(parting, numbers, bit_of(len(told.web.marks), mark))
        if found is None or many < found[1]:
            found = (mark, many)
    return found


def most_sorts_left(parting, numbers, bit):
    """How many sorts these settings have at most, this bit known."""
    high = set([parting.least[number] for number in numbers if number & bit])
    low = set([parting.least[number] for number in numbers if not number & bit])
    return max(len(high), len(low))
