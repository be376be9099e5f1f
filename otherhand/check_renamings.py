"""Checks of papers about renamings that lead bodies."""

from otherhand.bodies import need_body
from otherhand.checks import is_integer
from otherhand.marks import led_setting
from otherhand.papers import class_name
from otherhand.refusing import Led, Refused
from otherhand.renamings import is_renaming
from otherhand.sights import sight_of
from otherhand.words import plain_words, refusing_words


def shows_leading(one, other, value):
    """Whether a value is a right Led or Refused of two bodies."""
    need_body(one, "one")
    need_body(other, "other")
    if isinstance(value, Led) and class_name(value) == "Led":
        return leads_to(one, other, value.row)
    if isinstance(value, Refused) and class_name(value) == "Refused":
        return is_refusing(one, other, value.tree)
    return False


def leads_to(one, other, row):
    """Whether any value is a renaming that leads one body to another one."""
    if not is_renaming(one.web, other.web, row):
        return False
    return led_setting(one.web, other.web, row, one.setting) == other.setting


def is_refusing(one, other, tree):
    """Whether any value is a refusing tree of two bodies."""
    first, second = sight_of(one), sight_of(other)
    if len(first.core) != len(second.core):
        return isinstance(tree, str) and tree == "pieces"
    return refuses(first, second, {}, tree)


def refuses(one, other, placed, tree):
    """Whether any value is a refusing tree for what stands when these are placed."""
    if not isinstance(tree, tuple) or len(tree) != 2:
        return False
    piece, tries = tree
    if not is_integer(piece) or piece not in one.core or piece in placed:
        return False
    if not isinstance(tries, tuple) or len(tries) != len(other.core):
        return False
    for image, told in zip(other.core, tries):
        if not is_right_try(one, other, placed, (piece, image), told):
            return False
    return True


def is_right_try(one, other, placed, step, told):
    """Whether a word refuses an image, or a tree what stands with it."""
    piece, image = step
    if isinstance(told, str):
        return told in refusing_words(one, other, placed, piece, image)
    if plain_words(one, other, placed, piece, image):
        return False
    return refuses(one, other, {**placed, piece: image}, told)
