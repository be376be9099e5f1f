"""All settings of a web, parted into sorts, by their numbers."""

from otherhand.bodies import settings_of
from otherhand.orbits import bits_of_lot, parted_by, steps_of


class Parting:
    """The sorts of a web; each is told by the least number of its settings.

    Attributes: settings, all of them, by their numbers; steps, how renamings
    lead them; parts, for each sort, ascending, the numbers of its settings;
    least, for each number its sort; hands, the bits of all hands.
    """

    def __init__(self, web):
        self.settings = settings_of(web)
        self.steps = steps_of(web)
        numbers = list(range(len(self.settings)))
        self.parts = {part[0]: part for part in parted_by(self.steps, numbers)}
        self.least = [0] * len(numbers)
        for sort in self.parts:
            for number in self.parts[sort]:
                self.least[number] = sort
        self.hands = bits_of_lot(len(web.marks), list(range(len(web.hubs))))

    def image_of(self, sort):
        """The sort of the mirror images."""
        return self.least[sort ^ self.hands]
