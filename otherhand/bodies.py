"""Bodies: webs with a setting of their marks."""

from otherhand.errors import BadBody, NoMark
from otherhand.given import is_stiff, need_few_marks, need_hub, need_lot, need_setting
from otherhand.marks import hub_mark, led_setting, tie_mark
from otherhand.texts import read_parts, told_items
from otherhand.webs import need_web, read_whole


def need_body(value, part):
    if not isinstance(value, Body):
        raise BadBody(part)


def mirrored_setting(web, setting):
    """The setting with all hands turned and all sides kept."""
    hands = len(web.hubs)
    return tuple([-sign for sign in setting[:hands]]) + tuple(setting[hands:])


class Body:
    """A web with a setting."""

    def __init__(self, web, setting):
        need_web(web, "web")
        need_setting(web, setting, "setting")
        self.web = web
        self.setting = tuple(setting)

    def __eq__(self, other):
        return isinstance(other, Body) and self.web == other.web and self.setting == other.setting

    def __str__(self):
        signs = ["+" if sign == 1 else "-" for sign in self.setting]
        hub_signs = dict(zip(self.web.hubs, signs))
        tie_signs = dict(zip(self.web.stiff, signs[len(self.web.hubs):]))
        return " ".join(told_items(self.web.kinds, self.web.ties, hub_signs, tie_signs))

    @staticmethod
    def read(text):
        """The body with this text."""
        return body_of_text(text)

    def hand(self, hub):
        """The hand of a hub."""
        need_hub(self.web, hub)
        return self.setting[hub_mark(self.web, hub)]

    def side(self, tie):
        """The side of a stiff tie, told as an ascending pair."""
        if not is_stiff(self.web, tie):
            raise NoMark(tie)
        return self.setting[tie_mark(self.web, tuple(tie))]

    def turned(self, lot):
        """The body with these marks turned."""
        need_lot(self.web, lot, "lot")
        setting = list(self.setting)
        for mark in lot:
            setting[mark] = -setting[mark]
        return Body(self.web, setting)

    def mirrored(self):
        """The mirror image."""
        return Body(self.web, mirrored_setting(self.web, self.setting))

    def with_kind(self, piece, kind):
        """The body in which this piece has this kind."""
        return Body(self.web.with_kind(piece, kind), self.setting)

    def renumbered(self, row):
        """The body in which the piece at place k of the row is piece k."""
        web = self.web.renumbered(row)
        images = {piece: at for at, piece in enumerate(row)}
        return Body(web, led_setting(self.web, web, images, self.setting))


def body_of_text(text):
    """The body with this text."""
    kinds, ties, hubs, stiff = read_parts(text, ("+", "-"), ("+", "-"))
    web = read_whole(text, kinds, ties, list(hubs), list(stiff))
    signs = [hubs[hub] for hub in web.hubs] + [stiff[tie] for tie in web.stiff]
    return Body(web, [1 if sign == "+" else -1 for sign in signs])


def settings_of(web):
    """All settings of a web, ascending."""
    need_web(web, "web")
    need_few_marks(web)
    settings = [()]
    for _ in web.marks:
        settings = [setting + (sign,) for setting in settings for sign in (-1, 1)]
    return tuple(settings)
