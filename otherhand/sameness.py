"""Whether bodies are one, mirror images, or neither."""

from otherhand.bodies import need_body
from otherhand.papers import Denial, Paper
from otherhand.refusing import row_or_tree


class One(Paper):
    """A renaming that leads one body to the other."""

    def __init__(self, row):
        super().__init__("one", row)
        self.row = self.parts[0]


class MirrorOf(Paper):
    """A renaming that leads one body to the other's mirror image."""

    def __init__(self, row):
        super().__init__("mirrorof", row)
        self.row = self.parts[0]


class Neither(Denial):
    """Refusing trees of one body and the other, and the other's mirror image."""

    def __init__(self, tree, mirrored):
        super().__init__("neither", tree, mirrored)
        self.tree = self.parts[0]
        self.mirrored = self.parts[1]


class Mirrorlike(Paper):
    """A renaming of its web that leads a body to its mirror image."""

    def __init__(self, row):
        super().__init__("mirrorlike", row)
        self.row = self.parts[0]


class Handed(Denial):
    """A refusing tree of a body and its mirror image."""

    def __init__(self, tree):
        super().__init__("handed", tree)
        self.tree = self.parts[0]


def same(one, other):
    """Whether two bodies are one, otherwise mirror images, otherwise neither."""
    need_body(one, "one")
    need_body(other, "other")
    row, tree = row_or_tree(one, other)
    if row is not None:
        return One(row)
    row, mirrored = row_or_tree(one, other.mirrored())
    if row is not None:
        return MirrorOf(row)
    return Neither(tree, mirrored)


def mirrorlike(body):
    """Whether a body is one with its mirror image."""
    need_body(body, "body")
    row, tree = row_or_tree(body, body.mirrored())
    return Handed(tree) if row is None else Mirrorlike(row)
