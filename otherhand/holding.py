"""In which settings of a web sayings hold, and tried trees over sayings.

Settings are told by their numbers among all settings of the web, ascending. A
saying is told together with its truths: for each setting whether it holds.
"""

from otherhand.checks import is_integer, is_within
from otherhand.orbits import number_of
from otherhand.partings import Parting
from otherhand.sayings import IsMirrorlike, Product, product_in


def asks_for_sorts(sayings):
    """Whether some of the sayings is no product."""
    return any([not isinstance(saying, Product) for saying in sayings])


def products_by_setting(many, lot):
    """The products of a lot in all settings of so many marks, in their order."""
    found = [1]
    for mark in range(many):
        turns = (-1, 1) if mark in lot else (1, 1)
        found = [product * turn for product in found for turn in turns]
    return found


def truths_of(saying, many, parting):
    """The truths of a saying; parting is that of its web, None beside a product."""
    if isinstance(saying, Product):
        return [product == saying.sign for product in products_by_setting(many, saying.lot)]
    if isinstance(saying, IsMirrorlike):
        return [(parting.image_of(sort) == sort) == saying.is_so for sort in parting.least]
    its = parting.least[number_of(saying.setting)]
    return [(sort == its) == saying.is_so for sort in parting.least]


def all_truths(web, sayings):
    """For each saying its truths; TooMany of renamings where one is no product."""
    return truths_by(web, sayings, Parting(web) if asks_for_sorts(sayings) else None)


def truths_by(web, sayings, parting):
    """For each saying its truths; parting is that of the web, or None beside products alone."""
    return [truths_of(saying, len(web.marks), parting) for saying in sayings]


def numbers_fitting(web, truths):
    """The numbers of the settings in which all sayings with these truths hold."""
    numbers = list(range(1 << len(web.marks)))
    return [number for number in numbers if all([held[number] for held in truths])]


def is_broken(saying, truths, many, decided):
    """Whether a dict of decided marks, of so many, breaks a saying."""
    if isinstance(saying, Product):
        if not all([mark in decided for mark in saying.lot]):
            return False
        return product_in(saying.lot, decided) != saying.sign
    if len(decided) < many:
        return False
    return not truths[number_of([decided[mark] for mark in range(many)])]


def tried_tree(sayings, truths, many):
    """A tried tree over sayings which no setting fits."""
    return tree_behind(list(zip(sayings, truths)), many, {})


def tree_behind(pairs, many, decided):
    """The tree over pairs of sayings and truths where the first marks are decided."""
    for number, (saying, truths) in enumerate(pairs):
        if is_broken(saying, truths, many, decided):
            return number
    mark = len(decided)
    low = tree_behind(pairs, many, {**decided, mark: -1})
    return (mark, low, tree_behind(pairs, many, {**decided, mark: 1}))


def is_tried_tree(tree, sayings, truths, many):
    """Whether any value is a tried tree over sayings."""
    return breaks_all(tree, list(zip(sayings, truths)), many, {})


def breaks_all(tree, pairs, many, decided):
    """Whether any value is a tree over pairs of sayings and truths behind what is decided."""
    if is_integer(tree):
        if not 0 <= tree < len(pairs):
            return False
        saying, truths = pairs[tree]
        return is_broken(saying, truths, many, decided)
    if not isinstance(tree, tuple) or len(tree) != 3:
        return False
    mark, low, high = tree
    if not is_within(mark, 0, many - 1) or mark in decided:
        return False
    if not breaks_all(low, pairs, many, {**decided, mark: -1}):
        return False
    return breaks_all(high, pairs, many, {**decided, mark: 1})
