"""Windows of rows of signs, and rows that have some windows."""

from otherhand.chains import MOST_SIGNS, need_signs
from otherhand.checks import first_twice, is_sign, is_within
from otherhand.errors import BadNumber, BadWindow, TooMany
from otherhand.papers import Denial, Paper


class ChainBy(Paper):
    """A row of signs that has just these windows."""

    def __init__(self, setting):
        super().__init__("chainby", setting)
        self.setting = self.parts[0]


class NoChain(Denial):
    """Words that show that no row has just these windows, and why."""

    def __init__(self, why, words):
        super().__init__("nochain", why, words)
        self.why = self.parts[0]
        self.words = self.parts[1]


def need_width(width, most):
    if not is_within(width, 1, most):
        raise BadNumber("width")


def counted(row, width):
    """How often each window of so many signs comes in a row."""
    found = {}
    for at in range(len(row) - width + 1):
        window = tuple(row[at:at + width])
        found[window] = found.get(window, 0) + 1
    return found


def windows(setting, width):
    """The ascending pairs of a window of a row and of how often it comes."""
    need_signs(setting, 1)
    need_width(width, len(setting))
    found = counted(setting, width)
    return tuple([(window, found[window]) for window in sorted(found)])


def is_word(value, many):
    """Whether a value is a list of so many signs."""
    if not isinstance(value, (list, tuple)) or len(value) != many:
        return False
    return all([is_sign(sign) for sign in value])


def is_counted_window(value, width):
    """Whether a value is a pair of a window of this width and of an integer from 1 on."""
    if not isinstance(value, (list, tuple)) or len(value) != 2:
        return False
    return is_word(value[0], width) and is_within(value[1], 1, None)


def need_windows(width, value):
    """The dict of how often each window is to come, told by any value."""
    need_width(width, MOST_SIGNS)
    if not isinstance(value, (list, tuple)) or not value:
        raise BadWindow("windows")
    if not all([is_counted_window(pair, width) for pair in value]):
        raise BadWindow("windows")
    if first_twice([window for window, _ in value]) is not None:
        raise BadWindow("windows")
    return {tuple(window): many for window, many in value}


def length_by(width, asked):
    """How many signs a row with these windows has."""
    return sum([asked[window] for window in asked]) + width - 1


def more_begun(asked):
    """For each word how many more windows begin than end with it."""
    found = {}
    for window in asked:
        first, last = window[:-1], window[1:]
        found[first] = found.get(first, 0) + asked[window]
        found[last] = found.get(last, 0) - asked[window]
    return found


def chain_by(width, windows):
    """A row that has just these windows, or words that show that none has them."""
    asked = need_windows(width, windows)
    if length_by(width, asked) > MOST_SIGNS:
        raise TooMany("hubs", MOST_SIGNS)
    more = more_begun(asked)
    ends = sorted([word for word in more if more[word] > 0])
    if sum([more[word] for word in ends]) > 1:
        return NoChain("ends", ends)
    first = ends[0] if ends else min(list(asked))[:-1]
    together = words_together(asked, first)
    if len(together) < len(more):
        return NoChain("apart", together)
    return ChainBy(row_by(asked, first))


def words_together(asked, first):
    """The words to which windows lead from one, there or back, ascending."""
    near = {}
    for window in asked:
        near.setdefault(window[:-1], []).append(window[1:])
        near.setdefault(window[1:], []).append(window[:-1])
    found = {first: True}
    reached = [first]
    while reached:
        at = reached.pop()
        for word in near[at]:
            if word not in found:
                found[word] = True
                reached.append(word)
    return sorted(found)


def row_by(asked, first):
    """A row that begins with a word and has these windows, all of which can be gone through.

    Where the way ends, it comes round to what is left out yet: so it is told from behind.
    """
    left = {}
    for window in sorted(asked, reverse=True):
        left.setdefault(window[:-1], []).extend([window[-1]] * asked[window])
    way = [(first, None)]
    signs = []
    while way:
        word, sign = way[-1]
        if left.get(word):
            ahead = left[word].pop()
            way.append(((word + (ahead,))[1:], ahead))
        else:
            way.pop()
            signs.append(sign)
    # The first word was come to by no sign.
    return first + tuple(signs[-2::-1])
