"""How renamings lead bodies and their marks."""

from otherhand.bodies import Body, need_body
from otherhand.errors import BadRow
from otherhand.marks import led_setting, signs_of
from otherhand.renamings import is_renaming
from otherhand.webs import need_web


def need_renaming(web, other, row, part):
    if not is_renaming(web, other, row):
        raise BadRow(part)


def led(body, web, row):
    """The body on web to which a renaming leads the body."""
    need_body(body, "body")
    need_web(web, "web")
    need_renaming(body.web, web, row, "row")
    return Body(web, led_setting(body.web, web, row, body.setting))


def signed(web, other, row):
    """For each mark the number of its image, and -1 if it is turned, otherwise 1."""
    need_web(web, "web")
    need_web(other, "other")
    need_renaming(web, other, row, "row")
    return signs_of(web, other, row)
