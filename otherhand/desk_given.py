"""What is asked of a line together with a shelf, ahead of all that the line does."""

from otherhand.checks import is_within
from otherhand.desk_lines import FORMS, need_word, read_line
from otherhand.errors import BadNumber, Nothing, Twice
from otherhand.sayings import Told
from otherhand.shelves import need_shelf

SPEAKING_OF_SAYINGS = ("tell", "strike", "sayings", "saying", "fits", "judge", "best")


def given_line(shelf, line, words):
    """What a line stands for, which begins with one of these words and fits a shelf."""
    need_shelf(shelf)
    need_word(line, words)
    told = read_line(line)
    if told[0] in SPEAKING_OF_SAYINGS and shelf.about is None:
        raise Nothing()
    need_names(shelf, told)
    return told


def need_names(shelf, told):
    """Asks whether bodies are kept under all names of a line, but under no new one."""
    forms = FORMS[told[0]]
    for form, value in zip(forms, told[1:]):
        if form == "name":
            shelf.body(value)
    for form, value in zip(forms, told[1:]):
        if form == "new" and value in shelf.by_name:
            raise Twice(value)


def need_number(shelf, number):
    """Asks for the number of a saying."""
    if not is_within(number, 0, len(shelf.sayings) - 1):
        raise BadNumber("number")


def told_on(shelf):
    """What is told of a body of the web that is set."""
    return Told(shelf.about, shelf.sayings)
