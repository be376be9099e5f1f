"""The settings that are one body, and the least of them."""

from otherhand.bodies import Body, need_body
from otherhand.given import need_setting
from otherhand.orbits import settings_like
from otherhand.refusing import row_or_tree
from otherhand.webs import need_web


def like_settings(body):
    """All settings of its web that are one with a body, ascending."""
    need_body(body, "body")
    return settings_like(body.web, body.setting)


def least_setting(body):
    """The least setting of its web that is one with a body."""
    return like_settings(body)[0]


def least_body(body):
    """The body of the least setting that is one with a body."""
    least = least_setting(body)
    return Body(body.web, least)


def same_sort(web, one, other):
    """Whether two settings of a web are of one sort."""
    need_web(web, "web")
    need_setting(web, one, "one")
    need_setting(web, other, "other")
    row, _ = row_or_tree(Body(web, one), Body(web, other))
    return row is not None
