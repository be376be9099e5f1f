"""What is sure, never, or open of a body told in part."""

from otherhand.bodies import settings_of
from otherhand.errors import Impossible
from otherhand.holding import all_truths, numbers_fitting, tried_tree, truths_by
from otherhand.papers import Denial, Paper
from otherhand.partings import Parting
from otherhand.sayings import Product, need_about, need_saying, need_told
from otherhand.sums import sum_numbers


class Summed(Paper):
    """Numbers of told products that add up to the asked one: it is sure."""

    def __init__(self, numbers):
        super().__init__("summed", numbers)
        self.numbers = self.parts[0]


class Tried(Paper):
    """A tried tree over what is told with the contrary of the asked saying: it is sure."""

    def __init__(self, tree):
        super().__init__("tried", tree)
        self.tree = self.parts[0]


class Open(Paper):
    """Two settings that fit: the asked saying holds in the first one, not in the second."""

    def __init__(self, one, other):
        super().__init__("open", one, other)
        self.one = self.parts[0]
        self.other = self.parts[1]


class NeverSummed(Denial):
    """Numbers of told products that add up to the contrary of the asked one."""

    def __init__(self, numbers):
        super().__init__("neversummed", numbers)
        self.numbers = self.parts[0]


class NeverTried(Denial):
    """A tried tree over what is told with the asked saying: it never holds."""

    def __init__(self, tree):
        super().__init__("nevertried", tree)
        self.tree = self.parts[0]


class NoBody(Denial):
    """A tried tree over what is told: nothing fits."""

    def __init__(self, tree):
        super().__init__("nobody", tree)
        self.tree = self.parts[0]


def fitting(told):
    """All settings that fit what is told, ascending."""
    need_told(told)
    settings = settings_of(told.web)
    numbers = numbers_fitting(told.web, all_truths(told.web, told.sayings))
    return tuple([settings[number] for number in numbers])


def fitting_sorts(told):
    """All sorts that have a setting that fits what is told, ascending."""
    need_told(told)
    parting = Parting(told.web)
    numbers = numbers_fitting(told.web, truths_by(told.web, told.sayings, parting))
    found = sorted(set([parting.least[number] for number in numbers]))
    return tuple([parting.settings[sort] for sort in found])


def need_asked(told, saying):
    """Asks for what is told, and for a saying about it."""
    need_told(told)
    need_saying(saying, "saying")
    need_about(told.web, saying)


def need_some(told, truths, numbers):
    """Asks whether some settings, told by their numbers, fit what is told, with these truths."""
    if not numbers:
        raise Impossible(NoBody(tried_tree(told.sayings, truths, len(told.web.marks))))


def judged(told, saying):
    """Whether a saying is sure, never, or open."""
    need_asked(told, saying)
    truths = all_truths(told.web, [*told.sayings, saying])
    numbers = numbers_fitting(told.web, truths[:-1])
    need_some(told, truths[:-1], numbers)
    summed = summed_or_none(told, saying)
    if summed is not None:
        return summed
    return tried_or_open(told, saying, truths, numbers)


def summed_or_none(told, saying):
    """A Summed or NeverSummed of the asked saying, None where sums do not tell it."""
    if not isinstance(saying, Product):
        return None
    known = [at for at, its in enumerate(told.sayings) if isinstance(its, Product)]
    chosen = sum_numbers([told.sayings[at].lot for at in known], saying.lot)
    if chosen is None:
        return None
    numbers = [known[at] for at in chosen]
    return Summed(numbers) if signs_by(told, numbers) == saying.sign else NeverSummed(numbers)


def signs_by(told, numbers):
    """The product of the signs of these told products."""
    product = 1
    for number in numbers:
        product = product * told.sayings[number].sign
    return product


def tried_or_open(told, saying, truths, numbers):
    """A Tried, NeverTried or Open, by all truths and by the settings that fit what is told."""
    many = len(told.web.marks)
    asked = truths[-1]
    so = [number for number in numbers if asked[number]]
    not_so = [number for number in numbers if not asked[number]]
    if not so:
        return NeverTried(tried_tree([*told.sayings, saying], truths, many))
    if not not_so:
        contrary = [not truth for truth in asked]
        return Tried(tried_tree([*told.sayings, saying.contrary()], [*truths[:-1], contrary], many))
    settings = settings_of(told.web)
    return Open(settings[so[0]], settings[not_so[0]])
