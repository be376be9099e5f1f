"""Twists: lots that are turned together, and what they lead to."""

from otherhand.bodies import need_body
from otherhand.checks import first_twice, is_numbers, is_within
from otherhand.errors import BadNumber
from otherhand.given import need_one_web, need_twists
from otherhand.papers import Denial, Paper
from otherhand.sums import barring, choices_of, sum_numbers, sum_of
from otherhand.turnings import need_two_bodies, unlike_lots
from otherhand.webs import need_web


class By(Paper):
    """Numbers of twists, and a renaming that leads one, their sum turned, to other."""

    def __init__(self, numbers, row):
        super().__init__("by", numbers, row)
        self.numbers = self.parts[0]
        self.row = self.parts[1]


class Barred(Denial):
    """For each renaming a lot that shows that no twists lead from one to other by it."""

    def __init__(self, rows):
        super().__init__("barred", rows)
        self.rows = self.parts[0]


def need_numbers(twists, numbers):
    if not is_numbers(numbers) or first_twice(numbers) is not None:
        raise BadNumber("numbers")
    if not all([is_within(number, 0, len(twists) - 1) for number in numbers]):
        raise BadNumber("numbers")


def ascending_lots(twists):
    """The twists as lots: ascending tuples."""
    return [tuple(sorted(lot)) for lot in twists]


def twist_sum(web, twists, numbers):
    """The sum of the twists with these numbers, a lot."""
    need_web(web, "web")
    need_twists(web, twists)
    need_numbers(twists, numbers)
    return sum_of([twists[number] for number in numbers])


def twisted(body, twists, numbers):
    """The body with the sum of the twists with these numbers turned."""
    need_body(body, "body")
    return body.turned(twist_sum(body.web, twists, numbers))


def needless(web, twists):
    """The numbers of those twists that are the sum of some ahead of them, ascending."""
    need_web(web, "web")
    need_twists(web, twists)
    lots = ascending_lots(twists)
    found = [at for at, lot in enumerate(lots) if sum_numbers(lots[:at], lot) is not None]
    return tuple(found)


def need_two_bodies_and_twists(one, other, twists):
    need_two_bodies(one, other)
    need_twists(one.web, twists)
    need_one_web(one, other)


def barred_by(lots, unlike):
    """The Barred of the renamings and lots that are to be turned, none of them a sum of these lots."""
    return Barred([(row, barring(lots, lot)) for row, lot in unlike])


def led_by(one, other, twists):
    """A By of any twists that lead one body to another one, or the Barred."""
    need_two_bodies_and_twists(one, other, twists)
    lots = ascending_lots(twists)
    unlike = unlike_lots(one, other)
    for row, lot in unlike:
        numbers = sum_numbers(lots, lot)
        if numbers is not None:
            return By(numbers, row)
    return barred_by(lots, unlike)


def fewest_twists(one, other, twists):
    """A By of the fewest twists that lead one body to another one, or the Barred."""
    need_two_bodies_and_twists(one, other, twists)
    lots = ascending_lots(twists)
    unlike = unlike_lots(one, other)
    fewest = fewest_by_sum(lots)
    ways = [(fewest[lot], row) for row, lot in unlike if lot in fewest]
    if not ways:
        return barred_by(lots, unlike)
    numbers, row = min(ways, key=lambda way: (len(way[0]), way[0]))
    return By(numbers, row)


def fewest_by_sum(lots):
    """For each sum of some lots the fewest numbers of lots that make it, the least of these."""
    found = {}
    for choice in choices_of(len(lots)):
        found.setdefault(sum_of([lots[number] for number in choice]), choice)
    return found
