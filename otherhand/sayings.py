"""Sayings about a body whose setting nobody told, and what is told of one."""

from otherhand.bodies import Body, need_body
from otherhand.checks import first_twice, is_numbers, is_sign
from otherhand.errors import BadBody, BadLot, BadNumber, BadSaying, BadText, Misfit, NoMark, TooMany, Twice
from otherhand.given import need_marks_within
from otherhand.refusing import row_or_tree
from otherhand.texts import items_of, told_number
from otherhand.webs import need_web

MOST_MARKS_TOLD = 8
MOST_SAYINGS = 8
SIGNS = ("1", "-1")
YES_AND_NO = ("yes", "no")


def need_lot_of_marks(lot):
    if not is_numbers(lot) or any([mark < 0 for mark in lot]):
        raise BadLot("lot")
    twice = first_twice(lot)
    if twice is not None:
        raise Twice(twice)


def need_truth(value):
    if not isinstance(value, bool):
        raise BadSaying("is_so")


def yes_or_no(is_so):
    return "yes" if is_so else "no"


class Product:
    """The product of the marks of a lot is this sign."""

    def __init__(self, lot, sign):
        need_lot_of_marks(lot)
        if not is_sign(sign):
            raise BadNumber("sign")
        self.lot = tuple(sorted(lot))
        self.sign = sign

    def __eq__(self, other):
        return isinstance(other, Product) and self.lot == other.lot and self.sign == other.sign

    def __str__(self):
        return " ".join(["product", str(self.sign)] + [str(mark) for mark in self.lot])

    def contrary(self):
        """The product is the other sign."""
        return Product(self.lot, -self.sign)


class IsMirrorlike:
    """The body is mirrorlike, or is not."""

    def __init__(self, is_so=True):
        need_truth(is_so)
        self.is_so = is_so

    def __eq__(self, other):
        return isinstance(other, IsMirrorlike) and self.is_so == other.is_so

    def __str__(self):
        return " ".join(["mirrorlike", yes_or_no(self.is_so)])

    def contrary(self):
        """The body is not mirrorlike, or is."""
        return IsMirrorlike(not self.is_so)


class IsOne:
    """The body is one with the body of its web with this setting, or is not."""

    def __init__(self, setting, is_so=True):
        if not isinstance(setting, (list, tuple)) or not all([is_sign(sign) for sign in setting]):
            raise BadBody("setting")
        need_truth(is_so)
        self.setting = tuple(setting)
        self.is_so = is_so

    def __eq__(self, other):
        return isinstance(other, IsOne) and self.setting == other.setting and self.is_so == other.is_so

    def __str__(self):
        return " ".join(["one", yes_or_no(self.is_so)] + [str(sign) for sign in self.setting])

    def contrary(self):
        """The body is not one with that body, or is."""
        return IsOne(self.setting, not self.is_so)


def saying_of(text):
    """The saying with this text."""
    items = items_of(text)
    if items[0] == "product":
        return product_of(items)
    if items[0] == "mirrorlike":
        is_so = read_word(items, 1, YES_AND_NO) == "yes"
        if len(items) > 2:
            raise BadText(0, 2)
        return IsMirrorlike(is_so)
    if items[0] == "one":
        is_so = read_word(items, 1, YES_AND_NO) == "yes"
        signs = [read_word(items, at, SIGNS) for at in range(2, len(items))]
        return IsOne([sign_of(word) for word in signs], is_so)
    raise BadText(0, 0)


def product_of(items):
    """The product that items tell, its marks ascending."""
    sign = sign_of(read_word(items, 1, SIGNS))
    lot = []
    for at in range(2, len(items)):
        mark = told_number(items[at])
        if mark is None or (lot and mark <= lot[-1]):
            raise BadText(0, at)
        lot.append(mark)
    return Product(lot, sign)


def read_word(items, at, words):
    """The item at a place, if it is one of these words."""
    if at >= len(items) or items[at] not in words:
        raise BadText(0, at)
    return items[at]


def sign_of(word):
    """The sign that a word of SIGNS tells."""
    return 1 if word == "1" else -1


def is_saying(value):
    """Whether a value is a saying."""
    return isinstance(value, (Product, IsMirrorlike, IsOne))


def need_saying(value, part):
    if not is_saying(value):
        raise BadSaying(part)


def need_about(web, saying):
    """Asks whether a saying can be told of a body of this web."""
    if isinstance(saying, Product):
        for mark in saying.lot:
            if mark >= len(web.marks):
                raise NoMark(mark)
    if isinstance(saying, IsOne) and len(saying.setting) != len(web.marks):
        raise Misfit("marks")


def product_in(lot, setting):
    """The product of the marks of a lot in a setting; of the empty lot 1."""
    product = 1
    for mark in lot:
        product = product * setting[mark]
    return product


def holds_in(saying, body):
    """Whether a saying holds in a body."""
    need_saying(saying, "saying")
    need_body(body, "body")
    need_about(body.web, saying)
    if isinstance(saying, Product):
        return product_in(saying.lot, body.setting) == saying.sign
    other = body.mirrored() if isinstance(saying, IsMirrorlike) else Body(body.web, saying.setting)
    row, _ = row_or_tree(body, other)
    return (row is not None) == saying.is_so


def need_sayings(web, sayings):
    if not isinstance(sayings, (list, tuple)) or not all([is_saying(saying) for saying in sayings]):
        raise BadSaying("sayings")
    for saying in sayings:
        need_about(web, saying)


class Told:
    """A web, and some sayings about a body of it."""

    def __init__(self, web, sayings=()):
        need_web(web, "web")
        need_sayings(web, sayings)
        need_marks_within(web, MOST_MARKS_TOLD)
        if len(sayings) > MOST_SAYINGS:
            raise TooMany("sayings", MOST_SAYINGS)
        self.web = web
        self.sayings = tuple(sayings)

    def __eq__(self, other):
        return isinstance(other, Told) and self.web == other.web and self.sayings == other.sayings

    def with_saying(self, saying):
        """The same, with one more saying behind."""
        need_saying(saying, "saying")
        return Told(self.web, [*self.sayings, saying])


def need_told(value):
    if not isinstance(value, Told):
        raise BadSaying("told")
