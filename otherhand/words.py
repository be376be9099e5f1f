"""The words that refuse an image for a core piece."""

from otherhand.core_marks import marks_differ
from otherhand.placing import bond


def ties_differ(one, other, placed, piece, image):
    """Whether the ties to some piece placed ahead are not those of the images."""
    for far in placed:
        if bond(one.web, piece, far) != bond(other.web, image, placed[far]):
            return True
    return False


def plain_words(one, other, placed, piece, image):
    """All words that refuse the image, but "marks"."""
    words = []
    if image in list(placed.values()):
        words.append("used")
    if one.web.kinds[piece] != other.web.kinds[image]:
        words.append("kind")
    if (piece in one.web.hubs) != (image in other.web.hubs):
        words.append("hub")
    if (
        one.entries[piece] != other.entries[image]
        or len(one.web.near[piece]) != len(other.web.near[image])
    ):
        words.append("branches")
    if ties_differ(one, other, placed, piece, image):
        words.append("ties")
    return words


def refusing_words(one, other, placed, piece, image):
    """All words that refuse the image."""
    words = plain_words(one, other, placed, piece, image)
    if not words and marks_differ(one, other, {**placed, piece: image}):
        words.append("marks")
    return words
