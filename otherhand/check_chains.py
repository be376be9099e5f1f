"""Checks of papers about rows and their windows."""

from otherhand.checks import are_ascending
from otherhand.papers import class_name
from otherhand.windows import ChainBy, NoChain, counted, is_word, length_by, more_begun, need_windows


def shows_chain(width, windows, value):
    """Whether a value is a right ChainBy or NoChain of some windows."""
    asked = need_windows(width, windows)
    if isinstance(value, ChainBy) and class_name(value) == "ChainBy":
        row = value.setting
        return is_word(row, length_by(width, asked)) and counted(row, width) == asked
    if isinstance(value, NoChain) and class_name(value) == "NoChain":
        if not are_words(width, value.words) or not isinstance(value.why, str):
            return False
        if value.why == "ends":
            return begin_more(asked, value.words)
        return value.why == "apart" and stand_apart(asked, value.words)
    return False


def are_words(width, value):
    """Whether a value is an ascending tuple of different words of windows of this width."""
    if not isinstance(value, tuple) or not all([is_word(word, width - 1) for word in value]):
        return False
    return are_ascending(value)


def begin_more(asked, words):
    """Whether more windows begin than end at each of the words, by two or more, added up."""
    more = more_begun(asked)
    by = [more.get(word, 0) for word in words]
    return all([many > 0 for many in by]) and sum(by) > 1


def stand_apart(asked, words):
    """Whether some windows begin at these words, and some do not, and none leads there or back."""
    within = {word: True for word in words}
    begun = [window for window in asked if window[:-1] in within]
    ended = [window for window in asked if window[1:] in within]
    return 0 < len(begun) < len(asked) and begun == ended
