"""The words that refuse an image for a core piece."""

from otherhand.coding import bond
from otherhand.core_marks import marks_differ, new_marks_differ


def ties_differ(one, other, placed, piece, image):
    """Whether the ties to some piece placed ahead are not those of the images."""
    for far in placed:
        if bond(one.web, piece, far) != bond(other.web, image, placed[far]):
            return True
    return False


def words_of_pair(one, other, placed, piece, image):
    """All words that refuse the image, but "ties" and "marks"."""
    words = []
    if image in list(placed.values()):
        words.append("used")
    if one.web.kinds[piece] != other.web.kinds[image]:
        words.append("kind")
    if (piece in one.web.hubs) != (image in other.web.hubs):
        words.append("hub")
    if (
        one.entries[piece] != other.entries[image]
        or len(one.web.near[piece]) != len(other.web.near[image])
    ):
        words.append("branches")
    return words


def plain_words(one, other, placed, piece, image):
    """All words that refuse the image, but "marks"."""
    words = words_of_pair(one, other, placed, piece, image)
    if ties_differ(one, other, placed, piece, image):
        words.append("ties")
    return words


def refusing_word(one, other, placed, step, is_open):
    """A word that refuses the image of a piece, None if none does.

    Step is the pair of both. An image that is not open is refused by a word but
    "marks". No mark may differ by what is placed ahead.
    """
    piece, image = step
    if is_open:
        is_refused = new_marks_differ(one, other, {**placed, piece: image}, piece)
        return "marks" if is_refused else None
    words = words_of_pair(one, other, placed, piece, image)
    return words[0] if words else "ties"


def refusing_words(one, other, placed, piece, image):
    """All words that refuse the image."""
    words = plain_words(one, other, placed, piece, image)
    if not words and marks_differ(one, other, {**placed, piece: image}):
        words.append("marks")
    return words
