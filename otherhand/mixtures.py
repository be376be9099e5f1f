"""Mixtures: shares of the sorts of a web."""

from otherhand.checks import lowest
from otherhand.errors import BadMixture, BadNumber, Twice
from otherhand.given import is_setting, need_one_web, need_setting
from otherhand.orbits import number_of
from otherhand.partings import Parting
from otherhand.shares import (
    ALL,
    NOTHING,
    added,
    apart,
    is_balanced_by,
    is_fraction,
    is_share,
    part_of,
    rest_of,
)
from otherhand.webs import need_web


def is_pair_of_share(web, value):
    """Whether a value is a pair of a setting of the web and a fraction above 0."""
    if not isinstance(value, (list, tuple)) or len(value) != 2:
        return False
    setting, share = value
    return is_setting(web, setting) and is_fraction(share) and share[0] > 0


def need_shares(web, shares):
    if not isinstance(shares, (list, tuple)):
        raise BadMixture("shares")
    if not all([is_pair_of_share(web, pair) for pair in shares]):
        raise BadMixture("shares")


def shares_by_sort(parting, shares):
    """The shares by sorts; each sort is told once, and all shares add up to 1."""
    found = {}
    whole = NOTHING
    for setting, share in shares:
        sort = parting.least[number_of(setting)]
        if sort in found:
            raise Twice(setting)
        found[sort] = tuple(share)
    for sort in found:
        whole = added(whole, found[sort])
    if whole != ALL:
        raise BadMixture("sum")
    return found


def excess_of(parting, shares):
    """What the shares of the two sorts of each handed pair differ by, added up."""
    found = NOTHING
    for sort in parting.parts:
        image = parting.image_of(sort)
        if sort < image and (sort in shares or image in shares):
            differing = apart(shares.get(sort, NOTHING), shares.get(image, NOTHING))
            found = added(found, differing)
    return found


class Mixture:
    """Shares of the sorts of a web, which add up to 1."""

    def __init__(self, web, shares):
        need_web(web, "web")
        need_shares(web, shares)
        self.web = web
        self.parting = Parting(web)
        self.by_sort = shares_by_sort(self.parting, shares)
        settings = self.parting.settings
        self.shares = tuple([(settings[sort], self.by_sort[sort]) for sort in sorted(self.by_sort)])
        self.is_balanced = is_balanced_by(self.parting, self.by_sort)
        self.excess = excess_of(self.parting, self.by_sort)

    def __eq__(self, other):
        return isinstance(other, Mixture) and self.web == other.web and self.shares == other.shares

    def share(self, setting):
        """The share of the sort of a setting."""
        need_setting(self.web, setting, "setting")
        return share_of(self, self.parting.least[number_of(setting)])

    def mirrored(self):
        """The mirror image."""
        images = {self.parting.image_of(sort): self.by_sort[sort] for sort in self.by_sort}
        return mixture_of(self.web, self.parting, images)


def share_of(mixture, sort):
    """The share of a sort, told by its number."""
    return mixture.by_sort.get(sort, NOTHING)


def mixture_of(web, parting, shares):
    """The mixture of these shares by sorts, those of 0 left out."""
    settings = parting.settings
    return Mixture(web, [(settings[sort], shares[sort]) for sort in shares if shares[sort][0]])


def need_mixture(value, part):
    if not isinstance(value, Mixture):
        raise BadMixture(part)


def alone(web, setting):
    """The mixture of the sort of a setting alone."""
    need_web(web, "web")
    need_setting(web, setting, "setting")
    return Mixture(web, [(setting, ALL)])


def even(web):
    """The mixture that has of each sort as much as it has of all settings."""
    need_web(web, "web")
    parting = Parting(web)
    many = len(parting.settings)
    shares = {sort: lowest(len(parting.parts[sort]), many) for sort in parting.parts}
    return mixture_of(web, parting, shares)


def mixed(one, other, share):
    """The mixture of this share of one, and of the rest of other."""
    need_mixture(one, "one")
    need_mixture(other, "other")
    if not is_share(share):
        raise BadNumber("share")
    need_one_web(one, other)
    found = {}
    for sort in [*one.by_sort, *other.by_sort]:
        its = part_of(share, share_of(one, sort))
        found[sort] = added(its, part_of(rest_of(share), share_of(other, sort)))
    return mixture_of(one.web, one.parting, found)


def with_image(mixture, sort):
    """The share of a sort together with that of its mirror image."""
    return added(share_of(mixture, sort), share_of(mixture, mixture.parting.image_of(sort)))


def told_apart(one, other):
    """The first sort that has with its mirror image unlike shares in two mixtures, or None."""
    need_mixture(one, "one")
    need_mixture(other, "other")
    need_one_web(one, other)
    for sort in one.parting.parts:
        if with_image(one, sort) != with_image(other, sort):
            return one.parting.settings[sort]
    return None
