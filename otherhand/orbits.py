"""What comes of values by steps; and all settings of a web, parted into sorts.

A step tells for each value what comes of it: a list or a dict.

A setting is told here by its number among all settings, ascending: so its
first mark has the highest bit, and a bit is set where the mark is 1.
"""

from otherhand.bodies import settings_of
from otherhand.marks import signs_of
from otherhand.placing import few_placements
from otherhand.sights import plain_sight
from otherhand.spreading import exchanging_rows, plain_row


def reached_by(steps, first):
    """All that comes of a value by steps, ascending; itself among them."""
    found = {first: True}
    reached = [first]
    while reached:
        at = reached.pop()
        for step in steps:
            if step[at] not in found:
                found[step[at]] = True
                reached.append(step[at])
    return sorted(found)


def parted_by(steps, values):
    """The values in ascending tuples of those that come of one another, in their order.

    Steps must lead back, done often enough.
    """
    found = []
    met = {}
    for first in values:
        if first not in met:
            part = reached_by(steps, first)
            for value in part:
                met[value] = True
            found.append(tuple(part))
    return tuple(found)


def number_of(setting):
    """The number of a setting among all settings of its web."""
    number = 0
    for sign in setting:
        number = 2 * number + (1 if sign == 1 else 0)
    return number


def bit_of(many, mark):
    """The bit of a mark, one of so many, in the number of a setting."""
    return 1 << (many - 1 - mark)


def bits_of_lot(many, lot):
    """The bits of some unlike marks, of so many, in the number of a setting."""
    return sum([bit_of(many, mark) for mark in lot])


def symmetries(web):
    """Renamings of a web to itself; all others come of these put together."""
    placed = few_placements(web, web)
    sight = plain_sight(web)
    return exchanging_rows(sight) + [plain_row(sight, sight, images) for images in placed]


def led_numbers(many, signs):
    """For each setting the number of the one to which marks so led and turned lead it.

    Signs are pairs of the image of a mark and of -1 if it is turned, otherwise 1.
    """
    bits = [bit_of(many, image) for image, _ in signs]
    found = [sum([bits[at] for at in range(many) if signs[at][1] == -1])]
    for at in range(many - 1, -1, -1):
        # The settings with this mark 1 come behind those with it -1.
        found = found + [number ^ bits[at] for number in found]
    return found


def put_behind(one, other):
    """How marks are led and turned by one and then by other."""
    return tuple([(other[image][0], turn * other[image][1]) for image, turn in one])


def generating(known):
    """Some of these ways to lead marks, of which all others come put together."""
    chosen = []
    made = {}
    for signs in known:
        if signs not in made:
            chosen.append(signs)
            made = all_made_of(chosen)
    return chosen


def all_made_of(chosen):
    """All ways to lead marks that come of the chosen ones put together."""
    made = {signs: True for signs in chosen}
    reached = list(chosen)
    while reached:
        signs = reached.pop()
        for step in chosen:
            further = put_behind(signs, step)
            if further not in made:
                made[further] = True
                reached.append(further)
    return made


def steps_of(web):
    """The ways in which some renamings of a web to itself lead its settings.

    All other renamings lead them as these do, put together.
    """
    known = {}
    for row in symmetries(web):
        known[signs_of(web, web, row)] = True
    return [led_numbers(len(web.marks), signs) for signs in generating(list(known))]


def settings_like(web, setting):
    """All settings that are one body with this one, ascending."""
    settings = settings_of(web)
    numbers = reached_by(steps_of(web), number_of(setting))
    return tuple([settings[number] for number in numbers])
