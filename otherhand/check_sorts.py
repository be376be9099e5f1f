"""Checks of papers about sorts."""

from otherhand.checks import is_just
from otherhand.counting import Means, rows_of_means
from otherhand.given import is_setting, need_mark
from otherhand.papers import class_name
from otherhand.sorts import Sway, how_it_counts, where_it_counts
from otherhand.webs import need_web


def shows_means(web, value):
    """Whether a value is the Means of a web."""
    need_web(web, "web")
    rows = rows_of_means(web)
    if not isinstance(value, Means) or class_name(value) != "Means":
        return False
    return is_just(value.rows, rows)


def shows_sway(web, mark, value):
    """Whether a value is any right Sway of a mark."""
    need_web(web, "web")
    need_mark(web, mark)
    does_count = where_it_counts(web, mark)
    if not isinstance(value, Sway) or class_name(value) != "Sway":
        return False
    counting = [setting for setting in does_count if does_count[setting]]
    lacking = [setting for setting in does_count if not does_count[setting]]
    return (
        is_just(value.how, how_it_counts(counting, lacking))
        and is_any_of(web, value.counting, counting)
        and is_any_of(web, value.lacking, lacking)
    )


def is_any_of(web, value, settings):
    """Whether any value is one of these settings of a web, or None if there are none."""
    if not settings:
        return value is None
    return is_setting(web, value) and value in settings
