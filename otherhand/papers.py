"""Papers: answers together with what shows them."""


def fixed(value):
    """The value with each list in it as a tuple."""
    if isinstance(value, (list, tuple)):
        return tuple([fixed(part) for part in value])
    return value


def class_name(value):
    """The name of the class by which a value was made."""
    return value.__class__.__name__


def are_like_papers(one, other):
    """Whether two papers are of the same class, with equal words and parts."""
    if class_name(one) != class_name(other):
        return False
    return one.word == other.word and one.parts == other.parts


class Paper:
    """An answer and what shows it."""

    def __init__(self, word, *parts):
        self.word = word
        self.parts = fixed(parts)

    def __eq__(self, other):
        return isinstance(other, Paper) and are_like_papers(self, other)

    def __bool__(self):
        return True


class Denial(Paper):
    """A paper that says no."""

    def __init__(self, word, *parts):
        self.word = word
        self.parts = fixed(parts)

    def __eq__(self, other):
        return isinstance(other, Denial) and are_like_papers(self, other)

    def __bool__(self):
        return False
