"""Chains and wreaths of many hubs, told by the rows of their signs."""

from math import gcd

from otherhand.bodies import Body
from otherhand.checks import is_sign, is_within
from otherhand.errors import BadBody, BadNumber, TooMany
from otherhand.webs import Web

MOST_HUBS = 2000
MOST_SIGNS = 60
FEWEST_OF_A_WREATH = 3
MOST_OF_A_CHAIN_BODY = 4
MOST_OF_A_WREATH_BODY = 5


def need_many(many, least, most):
    if not is_within(many, least, most):
        raise BadNumber("many")


def need_hubs_within(setting, most):
    if len(setting) > most:
        raise TooMany("hubs", most)


def need_signs(setting, least):
    """Asks for a row of so many signs or more, and not for too long a one."""
    if not isinstance(setting, (list, tuple)) or len(setting) < least:
        raise BadBody("setting")
    if not all([is_sign(sign) for sign in setting]):
        raise BadBody("setting")
    need_hubs_within(setting, MOST_SIGNS)


def chain_sorts(many):
    """How many sorts of chains of so many hubs there are."""
    need_many(many, 1, MOST_HUBS)
    kept = 0 if many % 2 else 1 << (many // 2)
    return ((1 << many) + kept) // 2


def chain_mirrorlike(many):
    """How many sorts of chains of so many hubs are mirrorlike."""
    need_many(many, 1, MOST_HUBS)
    return 1 << ((many + 1) // 2 - 1)


def wreath_sorts(many):
    """How many sorts of wreaths of so many hubs there are."""
    need_many(many, FEWEST_OF_A_WREATH, MOST_HUBS)
    left = sum([1 << gcd(step, many) for step in range(many)])
    if many % 2 == 0:
        half = many // 2
        left = left + half * (1 << half)
    return left // (2 * many)


def wreath_mirrorlike(many):
    """How many sorts of wreaths of so many hubs are mirrorlike."""
    need_many(many, FEWEST_OF_A_WREATH, MOST_HUBS)
    shared = [gcd(step, many) for step in range(many)]
    # Coming round, each sign is turned: so it must be in an even number of steps.
    left = sum([1 << steps for steps in shared if (many // steps) % 2 == 0])
    half = many // 2
    if many % 2:
        left = left + many * (1 << (half + 1))
    else:
        # Laid over, either no hub or two hubs stay where they are.
        left = left + half * (1 << half) + half * (1 << (half + 1))
    return left // (2 * many)


def behind_row(row):
    """A row read from behind: in the other order, each sign turned."""
    return tuple([-sign for sign in row[::-1]])


def chain_least(setting):
    """The lesser one of a row and of the row read from behind."""
    need_signs(setting, 1)
    return min(tuple(setting), behind_row(setting))


def many_least_rows(many, ahead):
    """How many least rows of chains of so many hubs begin with these signs.

    Going through the pairs of signs as far from either end, from outside: for
    some rows all pairs were unlike so far, others are known to be the least ones.
    """
    unlike, known = 1, 0
    for at in range(many // 2):
        ones = signs_open(ahead, at)
        others = signs_open(ahead, many - 1 - at)
        both_low = 1 if -1 in ones and -1 in others else 0
        known = known * len(ones) * len(others) + unlike * both_low
        unlike = unlike * len([sign for sign in ones if -sign in others])
    if many % 2 == 0:
        return known + unlike
    middle = signs_open(ahead, many // 2)
    return known * len(middle) + (unlike if -1 in middle else 0)


def signs_open(ahead, at):
    """The signs that can stand at a place of a row that begins with some signs."""
    return (ahead[at],) if at < len(ahead) else (-1, 1)


def chain_at(many, number):
    """The row with this number among the least rows of all sorts of chains, ascending."""
    need_many(many, 1, MOST_SIGNS)
    if not is_within(number, 0, chain_sorts(many) - 1):
        raise BadNumber("number")
    row = ()
    left = number
    for _ in range(many):
        low = many_least_rows(many, row + (-1,))
        if left < low:
            row = row + (-1,)
        else:
            left = left - low
            row = row + (1,)
    return row


def number_of_chain(setting):
    """The number of the sort of a chain."""
    row = chain_least(setting)
    number = 0
    for at, sign in enumerate(row):
        if sign == 1:
            number = number + many_least_rows(len(row), row[:at] + (-1,))
    return number


def wreath_least(setting):
    """The least one of all rows of the same wreath."""
    need_signs(setting, FEWEST_OF_A_WREATH)
    rows = []
    for row in (tuple(setting), behind_row(setting)):
        rows = rows + [row[at:] + row[:at] for at in range(len(row))]
    return min(rows)


def chain_body(setting):
    """The body of a chain: an end, the hubs, the other end, uppers, lowers."""
    need_signs(setting, 1)
    need_hubs_within(setting, MOST_OF_A_CHAIN_BODY)
    many = len(setting)
    ties = [(at, at + 1) for at in range(many + 1)]
    for hub in range(1, many + 1):
        ties = ties + [(hub, many + 1 + hub), (hub, 2 * many + 1 + hub)]
    kinds = ["e", *["h"] * many, "e", *["a"] * many, *["b"] * many]
    return Body(Web(kinds, ties, list(range(1, many + 1))), setting)


def wreath_body(setting):
    """The body of a wreath: the hubs, uppers, lowers."""
    need_signs(setting, FEWEST_OF_A_WREATH)
    need_hubs_within(setting, MOST_OF_A_WREATH_BODY)
    many = len(setting)
    ties = [(at, (at + 1) % many) for at in range(many)]
    for hub in range(many):
        ties = ties + [(hub, many + hub), (hub, 2 * many + hub)]
    kinds = [*["h"] * many, *["a"] * many, *["b"] * many]
    # The first hub has the piece behind numbered behind the one ahead; so has the last one.
    hands = [-setting[0], *setting[1:-1], -setting[-1]]
    return Body(Web(kinds, ties, list(range(many))), hands)
