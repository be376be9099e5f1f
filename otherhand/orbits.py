"""All settings of a web, parted into sorts.

A setting is told here by its number among all settings, ascending: so its
first mark has the highest bit, and a bit is set where the mark is 1.
"""

from otherhand.bodies import settings_of
from otherhand.errors import TooMany
from otherhand.marks import marks_led, turns_of
from otherhand.placing import MOST_RENAMINGS, placements
from otherhand.sights import plain_sight
from otherhand.spreading import exchanging_rows, plain_row


def number_of(setting):
    """The number of a setting among all settings of its web."""
    number = 0
    for sign in setting:
        number = 2 * number + (1 if sign == 1 else 0)
    return number


def symmetries(web):
    """Renamings of a web to itself; all others come of these put together."""
    sight = plain_sight(web)
    placed = placements(sight, sight, MOST_RENAMINGS)
    if len(placed) > MOST_RENAMINGS:
        raise TooMany("renamings", MOST_RENAMINGS)
    return exchanging_rows(sight) + [plain_row(sight, sight, images) for images in placed]


def led_numbers(many, signs):
    """For each setting the number of the one to which marks so led and turned lead it.

    Signs are pairs of the image of a mark and of -1 if it is turned, otherwise 1.
    """
    bits = [1 << (many - 1 - image) for image, _ in signs]
    found = [sum([bits[at] for at in range(many) if signs[at][1] == -1])]
    for at in range(many - 1, -1, -1):
        # The settings with this mark 1 come behind those with it -1.
        found = found + [number ^ bits[at] for number in found]
    return found


def steps_of(web):
    """The ways in which renamings of a web to itself lead its settings, each once."""
    known = {}
    for row in symmetries(web):
        signs = tuple(zip(marks_led(web, web, row), turns_of(web, row)))
        known[signs] = True
    return [led_numbers(len(web.marks), signs) for signs in known]


def reached_numbers(steps, number):
    """The numbers of all settings of the sort of this one, ascending."""
    found = {number: True}
    reached = [number]
    while reached:
        at = reached.pop()
        for step in steps:
            if step[at] not in found:
                found[step[at]] = True
                reached.append(step[at])
    return sorted(found)


def settings_like(web, setting):
    """All settings that are one body with this one, ascending."""
    settings = settings_of(web)
    numbers = reached_numbers(steps_of(web), number_of(setting))
    return tuple([settings[number] for number in numbers])


def least_numbers(web):
    """For the number of each setting the least number of its sort."""
    steps = steps_of(web)
    found = {}
    for number in range(1 << len(web.marks)):
        if number not in found:
            for like in reached_numbers(steps, number):
                found[like] = number
    return found
