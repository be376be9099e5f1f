"""The lines that are told to a desk, and what their items stand for."""

from otherhand.bodies import body_of_text
from otherhand.checks import is_name
from otherhand.errors import BadText
from otherhand.sayings import saying_of
from otherhand.texts import items_of, told_number

DEEDS = ("put", "kind", "turn", "mirror", "exchange", "off", "join", "drop", "about", "tell", "strike")
ASKS = (
    "names", "show", "same", "mirrorlike", "sorts", "counts", "way", "kins", "open", "alike", "faces",
    "letters", "fewest", "least", "chain", "wreath", "set", "sayings", "saying", "fits", "judge", "best",
)
# What stands behind the first word. The last three go on to the end of the line:
# a number and perhaps more of them, the text of a body, the text of a saying.
FORMS = {
    "put": ("new", "body"),
    "kind": ("name", "number", "kind"),
    "turn": ("name", "numbers"),
    "mirror": ("name",),
    "exchange": ("name", "number", "number", "number"),
    "off": ("name", "number"),
    "join": ("new", "name", "number", "name", "number"),
    "drop": ("name",),
    "about": ("name",),
    "tell": ("saying",),
    "strike": ("numbers",),
    "names": (),
    "show": ("name",),
    "same": ("name", "name"),
    "mirrorlike": ("name",),
    "sorts": ("name",),
    "counts": ("name", "number"),
    "way": ("name", "number"),
    "kins": ("name",),
    "open": ("name",),
    "alike": ("name", "number", "number"),
    "faces": ("name", "number"),
    "letters": ("name",),
    "fewest": ("name", "name"),
    "least": ("name",),
    "chain": ("number",),
    "wreath": ("number",),
    "set": (),
    "sayings": (),
    "saying": ("number",),
    "fits": (),
    "judge": ("saying",),
    "best": (),
}


def first_word(line):
    """The first item of a line, any value."""
    return items_of(line)[0]


def need_word(line, words):
    """Asks for a line that begins with one of these words."""
    if first_word(line) not in words:
        raise BadText(0, 0)


def read_line(line):
    """The first word of a line, and what the other items stand for."""
    items = items_of(line)
    if items[0] not in FORMS:
        raise BadText(0, 0)
    told = [items[0]]
    is_whole = False
    for form in FORMS[items[0]]:
        # What goes on to the end of the line stands last: so ahead of it one item for each.
        told = told + read_form(items, len(told), form)
        is_whole = form in ("body", "saying")
    if not is_whole and len(items) > len(told):
        raise BadText(0, len(told))
    return tuple(told)


def read_form(items, at, form):
    """What the item at a place stands for, and those behind it if it goes on, in a list."""
    if at == len(items):
        raise BadText(0, at)
    if form == "numbers":
        return [read_number(items, place) for place in range(at, len(items))]
    if form == "number":
        return [read_number(items, at)]
    if form in ("body", "saying"):
        return [read_text(items, at, form)]
    if not is_name(items[at]):
        raise BadText(0, at)
    return [items[at]]


def read_number(items, at):
    """The integer from 0 on that an item tells."""
    number = told_number(items[at])
    if number is None:
        raise BadText(0, at)
    return number


def read_text(items, at, form):
    """The body or saying told by the items from this one on."""
    text = " ".join(items[at:])
    try:
        return body_of_text(text) if form == "body" else saying_of(text)
    except BadText as error:
        raise BadText(0, at + error.item) from None
