"""Ask lines: what a shelf answers."""

from otherhand.answers import fitting, judged
from otherhand.asking import best_mark
from otherhand.chains import chain_mirrorlike, chain_sorts, wreath_mirrorlike, wreath_sorts
from otherhand.counting import many_mirrorlike, many_sorts
from otherhand.desk_given import given_line, need_number, told_on
from otherhand.desk_lines import ASKS
from otherhand.flats import faces
from otherhand.leastforms import least_setting
from otherhand.letters import letters
from otherhand.places import alike, kins, open_kins
from otherhand.sameness import mirrorlike, same
from otherhand.sorts import counts, sway
from otherhand.turnings import fewest_turns

NONE_AT_ALL = "-"
# What papers are told as.
WORDS = {
    "one": "one",
    "mirrorof": "mirror",
    "neither": "neither",
    "alike": "alike",
    "mirroralike": "mirror",
    "unlike": "unlike",
    "summed": "surely",
    "tried": "surely",
    "neversummed": "never",
    "nevertried": "never",
    "open": "open",
}


def answer_of(shelf, line):
    """The answer to an ask line."""
    word, *told = given_line(shelf, line, ASKS)
    ask = ANSWERED_BY[word]
    return ask(shelf, *told)


def in_line(values):
    """Some values with blanks between."""
    return " ".join([str(value) for value in values]) if values else NONE_AT_ALL


def yes_or_no(truth):
    return "yes" if truth else "no"


def names_kept(shelf):
    return in_line(shelf.names)


def text_shown(shelf, name):
    return str(shelf.body(name))


def sameness_of(shelf, one, other):
    return WORDS[same(shelf.body(one), shelf.body(other)).word]


def is_mirrorlike(shelf, name):
    return yes_or_no(mirrorlike(shelf.body(name)))


def sorts_of_web(shelf, name):
    web = shelf.body(name).web
    return in_line([many_sorts(web), many_mirrorlike(web)])


def does_count(shelf, name, mark):
    return yes_or_no(counts(shelf.body(name), mark))


def way_of_mark(shelf, name, mark):
    return sway(shelf.body(name).web, mark).how


def kins_told(found):
    """Some kins, with strokes between."""
    return " / ".join([in_line(kin) for kin in found])


def kins_of(shelf, name):
    return kins_told(kins(shelf.body(name)))


def open_kins_of(shelf, name):
    return kins_told(open_kins(shelf.body(name)))


def likeness_of(shelf, name, one, other):
    return WORDS[alike(shelf.body(name), one, other).word]


def faces_of(shelf, name, piece):
    return WORDS[faces(shelf.body(name), piece).word]


def letters_of(shelf, name):
    return in_line(letters(shelf.body(name)))


def fewest_marks(shelf, one, other):
    return in_line(fewest_turns(shelf.body(one), shelf.body(other)).lot)


def least_of(shelf, name):
    return in_line(least_setting(shelf.body(name)))


def chains_of(shelf, many):
    return in_line([chain_sorts(many), chain_mirrorlike(many)])


def wreaths_of(shelf, many):
    return in_line([wreath_sorts(many), wreath_mirrorlike(many)])


def web_set(shelf):
    return NONE_AT_ALL if shelf.about is None else str(shelf.about)


def many_sayings(shelf):
    return str(len(shelf.sayings))


def saying_at(shelf, number):
    need_number(shelf, number)
    return str(shelf.sayings[number])


def many_fitting(shelf):
    return str(len(fitting(told_on(shelf))))


def judgement_of(shelf, saying):
    return WORDS[judged(told_on(shelf), saying).word]


def best_to_look_at(shelf):
    found = best_mark(told_on(shelf))
    return NONE_AT_ALL if found is None else in_line(found)


ANSWERED_BY = {
    "names": names_kept,
    "show": text_shown,
    "same": sameness_of,
    "mirrorlike": is_mirrorlike,
    "sorts": sorts_of_web,
    "counts": does_count,
    "way": way_of_mark,
    "kins": kins_of,
    "open": open_kins_of,
    "alike": likeness_of,
    "faces": faces_of,
    "letters": letters_of,
    "fewest": fewest_marks,
    "least": least_of,
    "chain": chains_of,
    "wreath": wreaths_of,
    "set": web_set,
    "sayings": many_sayings,
    "saying": saying_at,
    "fits": many_fitting,
    "judge": judgement_of,
    "best": best_to_look_at,
}
