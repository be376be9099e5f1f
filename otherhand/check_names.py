"""Checks of papers about names."""

from otherhand.checks import is_just, is_numbers
from otherhand.letters import Names, ends_of_marks, letters
from otherhand.papers import class_name
from otherhand.ranks import ranks_at


def shows_names(body, value):
    """Whether a value is a right Names of a body."""
    names = letters(body)
    if not isinstance(value, Names) or class_name(value) != "Names":
        return False
    if not is_just(value.letters, names) or not is_tuple_of(value.ranks, len(names)):
        return False
    for ends, told in zip(ends_of_marks(body.web), value.ranks):
        if not are_right_rows(body, ends, told):
            return False
    return True


def is_tuple_of(value, many):
    """Whether a value is a tuple of so many."""
    return isinstance(value, tuple) and len(value) == many


def are_right_rows(body, ends, told):
    """Whether a value tells the branches as they rank, of one end or of a pair of ends."""
    if len(ends) == 1:
        return is_right_row(body, ends[0], told)
    if not is_tuple_of(told, len(ends)):
        return False
    return all([is_right_row(body, end, row) for end, row in zip(ends, told)])


def is_right_row(body, piece, row):
    """Whether a value has each branch of a piece, none ahead of one that ranks ahead of it."""
    ranks, branches = ranks_at(body.web, body.setting, piece)
    if not is_numbers(row) or sorted(row) != sorted(branches):
        return False
    rank_by = dict(zip(branches, ranks))
    return [rank_by[branch] for branch in row] == list(ranks)
