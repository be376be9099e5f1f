"""The desk: it keeps bodies and sayings, and answers line by line."""

from otherhand.checks import is_name
from otherhand.desk_asks import answer_of
from otherhand.desk_deeds import changed
from otherhand.desk_lines import ASKS, first_word
from otherhand.errors import BadLine, HandError, Nothing
from otherhand.shelves import Shelf


def stepped(shelf, line):
    """The answer to a line, and the shelf behind it; None behind an ask line."""
    if first_word(line) in ASKS:
        return answer_of(shelf, line), None
    behind, answer = changed(shelf, line)
    return answer, behind


def all_stepped(shelf, lines):
    """The answers to some lines, and the pairs of each deed line and of the shelf behind it."""
    answers = []
    deeds = []
    for at, line in enumerate(lines):
        try:
            answer, behind = stepped(shelf, line)
        except HandError as error:
            raise BadLine(at, error) from None
        answers.append(answer)
        if behind is not None:
            deeds.append((line, behind))
            shelf = behind
    return tuple(answers), deeds


class Desk:
    """A shelf, and the story of how it came to be.

    Attributes beside those of the interface: ahead, for each line of the story
    the shelf ahead of it; undone, the lines taken back that can be done again,
    the first one last, each with the shelf behind it.
    """

    def __init__(self):
        self.shelf = Shelf()
        self.story = ()
        self.ahead = []
        self.undone = []

    def __eq__(self, other):
        return isinstance(other, Desk) and self.shelf == other.shelf

    def __len__(self):
        return len(self.shelf.sayings)

    def __contains__(self, value):
        return is_name(value) and value in self.shelf.by_name

    def __call__(self, line):
        answer, behind = stepped(self.shelf, line)
        if behind is not None:
            keep_deeds(self, [(line, behind)])
        return answer

    def told(self, *lines):
        """The answers to some lines, which are done all or not at all."""
        answers, deeds = all_stepped(self.shelf, lines)
        keep_deeds(self, deeds)
        return answers

    def tried(self, *lines):
        """The answers to some lines, as if they were told."""
        return all_stepped(self.shelf, lines)[0]

    def undo(self):
        """Takes back the last line of the story, and returns it."""
        if not self.story:
            raise Nothing()
        line = self.story[-1]
        self.undone.append((line, self.shelf))
        self.story = self.story[:-1]
        self.shelf = self.ahead.pop()
        return line

    def redo(self):
        """Does again the line that was taken back last, and returns it."""
        if not self.undone:
            raise Nothing()
        line, shelf = self.undone.pop()
        keep_deed(self, line, shelf)
        return line

    def twin(self):
        """A desk that is in all as this one."""
        other = Desk()
        other.shelf = self.shelf
        other.story = self.story
        other.ahead = list(self.ahead)
        other.undone = list(self.undone)
        return other


def keep_deed(desk, line, shelf):
    """Puts a line, and the shelf behind it, to the story of a desk."""
    desk.ahead.append(desk.shelf)
    desk.shelf = shelf
    desk.story = (*desk.story, line)


def keep_deeds(desk, deeds):
    """Puts new deeds to the story of a desk; if there are any, nothing can be done again."""
    for line, shelf in deeds:
        keep_deed(desk, line, shelf)
    if deeds:
        desk.undone = []
