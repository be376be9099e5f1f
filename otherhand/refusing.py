"""Whether a renaming leads one body to another one, and what refuses it."""

from otherhand.bodies import need_body
from otherhand.papers import Denial, Paper
from otherhand.placing import few_placements, left_open, next_piece, open_images
from otherhand.sights import sight_of
from otherhand.spreading import led_row
from otherhand.words import refusing_word


class Led(Paper):
    """A renaming that leads one body to another one."""

    def __init__(self, row):
        super().__init__("led", row)
        self.row = self.parts[0]


class Refused(Denial):
    """A refusing tree: no renaming leads one body to another one."""

    def __init__(self, tree):
        super().__init__("refused", tree)
        self.tree = self.parts[0]


def leading(one, other):
    """The Led of a renaming that leads one to other, or the Refused."""
    need_body(one, "one")
    need_body(other, "other")
    row, tree = row_or_tree(one, other)
    return Refused(tree) if row is None else Led(row)


def row_or_tree(one, other):
    """A row that leads one body to another one and None, or None and a refusing tree."""
    few_placements(one.web, other.web)
    return found_or_refused(one, other)


def found_or_refused(one, other):
    """As row_or_tree, for webs that are known to have few ways to place the core."""
    first, second = sight_of(one), sight_of(other)
    if len(first.core) != len(second.core):
        return None, "pieces"
    placed, tree = placed_or_tree(first, second, open_images(first, second), {})
    if placed is None:
        return None, tree
    return led_row(first, second, placed), None


def placed_or_tree(one, other, images, placed):
    """The whole core placed and None, or None and a refusing tree for what stands."""
    if not images:
        return placed, None
    piece = next_piece(images)
    tries = []
    for image in other.core:
        word = refusing_word(one, other, placed, (piece, image), image in images[piece])
        if word is not None:
            tries.append(word)
            continue
        left = left_open(one, other, images, piece, image)
        found, tree = placed_or_tree(one, other, left, {**placed, piece: image})
        if tree is None:
            return found, None
        tries.append(tree)
    return None, (piece, tuple(tries))
