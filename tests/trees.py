"""Refusing trees, told once more from the words of the document alone."""

from otherhand.branches import core_of, hanging
from otherhand.codes import code_of, entries_of
from tests.oracle import neighbours, wrong_pairs

WORDS = ("used", "kind", "hub", "branches", "ties", "marks")


def tie(one, other):
    return tuple(sorted((one, other)))


def hangs(body, piece, far=None):
    """The hanging branches of a piece, without far, by their codes, descending."""
    found = [at for at in hanging(body.web, piece) if at != far]
    return sorted(found, key=lambda at: (code_of(body, at, piece), -at), reverse=True)


def in_core(body, piece, far=None):
    core = core_of(body.web)
    return [at for at in neighbours(body.web, piece) if at in core and at != far]


def has_two_like(body, piece, found):
    codes = [code_of(body, at, piece) for at in found]
    return any(codes[k] == codes[k + 1] for k in range(len(codes) - 1))


def core_marks(body):
    """The core marks that are not void: hubs, and ties."""
    core = core_of(body.web)
    hubs = [hub for hub in body.web.hubs
            if hub in core and not has_two_like(body, hub, hangs(body, hub))]
    ties = []
    for low, high in body.web.stiff:
        if low not in core and high not in core:
            continue
        both = ((low, high), (high, low))
        if not any(has_two_like(body, end, hangs(body, end, far)) for end, far in both):
            ties.append((low, high))
    return hubs, ties


def core_pieces_of(body, ends):
    core = core_of(body.web)
    found = [end for end in ends if end in core]
    return found + [at for end in list(found) for at in in_core(body, end)]


def told_hand(body, hub, order):
    return body.hand(hub) * (-1) ** wrong_pairs(order)


def told_side(body, pair, firsts):
    side = body.side(tie(*pair))
    for (end, far), first in zip((pair, pair[::-1]), firsts):
        if first != min(at for at in neighbours(body.web, end) if at != far):
            side = -side
    return side


def hub_differs(one, other, placed, hub):
    order = hangs(one, hub) + in_core(one, hub)
    image = hangs(other, placed[hub]) + [placed[at] for at in in_core(one, hub)]
    return told_hand(one, hub, order) != told_hand(other, placed[hub], image)


def tie_differs(one, other, placed, pair):
    core = core_of(one.web)
    images = {end: placed[end] for end in pair if end in core}
    for end, far in (pair, pair[::-1]):
        if end not in core:
            stiff = [at for at in hanging(other.web, images[far])
                     if tie(at, images[far]) in other.web.stiff]
            images[end] = stiff[0]
    firsts, image_firsts = [], []
    for end, far in (pair, pair[::-1]):
        held = hangs(one, end, far)
        if held:
            firsts.append(held[0])
            image_firsts.append(hangs(other, images[end], images[far])[0])
        else:
            firsts.append(in_core(one, end, far)[0])
            image_firsts.append(placed[firsts[-1]])
    image_pair = (images[pair[0]], images[pair[1]])
    return told_side(one, pair, firsts) != told_side(other, image_pair, image_firsts)


def true_words(one, other, placed, piece, image):
    """All words that refuse the image of a piece, when these are placed ahead."""
    web, its = one.web, other.web
    words = set()
    if image in placed.values():
        words.add("used")
    if web.kinds[piece] != its.kinds[image]:
        words.add("kind")
    if (piece in web.hubs) != (image in its.hubs):
        words.add("hub")
    if entries_of(one, piece) != entries_of(other, image):
        words.add("branches")
    if len(neighbours(web, piece)) != len(neighbours(its, image)):
        words.add("branches")
    for ahead, by in placed.items():
        pair, image_pair = tie(piece, ahead), tie(image, by)
        if (pair in web.ties) != (image_pair in its.ties):
            words.add("ties")
        if (pair in web.stiff) != (image_pair in its.stiff):
            words.add("ties")
    if words:
        return words
    now = {**placed, piece: image}
    hubs, ties = core_marks(one)
    for hub in hubs:
        if set(core_pieces_of(one, [hub])) <= set(now) and hub_differs(one, other, now, hub):
            words.add("marks")
    for pair in ties:
        if set(core_pieces_of(one, pair)) <= set(now) and tie_differs(one, other, now, pair):
            words.add("marks")
    return words


def any_tree(rng, one, other, placed=None):
    """A refusing tree, its pieces and words by chance; None if the core can be placed."""
    placed = placed or {}
    core, its = core_of(one.web), core_of(other.web)
    if len(core) != len(its):
        return "pieces"
    left = [piece for piece in core if piece not in placed]
    if not left:
        return None
    near = [piece for piece in left if set(neighbours(one.web, piece)) & set(placed)]
    piece = rng.choice(near or left)
    tries = []
    for image in its:
        words = sorted(true_words(one, other, placed, piece, image))
        # A tree may stand where "marks" alone is true, too.
        if words and (words != ["marks"] or len(left) == 1 or rng.random() < 0.8):
            tries.append(rng.choice(words))
            continue
        tree = any_tree(rng, one, other, {**placed, piece: image})
        if tree is None:
            return None
        tries.append(tree)
    return (piece, tuple(tries))


def is_right_tree(one, other, tree, placed=None):
    """Whether a value is a refusing tree, by the words of the document."""
    placed = placed or {}
    core, its = core_of(one.web), core_of(other.web)
    if len(core) != len(its):
        return tree == "pieces"
    if not isinstance(tree, (list, tuple)) or len(tree) != 2:
        return False
    piece, tries = tree
    if type(piece) is not int or piece not in core or piece in placed:
        return False
    if not isinstance(tries, (list, tuple)) or len(tries) != len(its):
        return False
    for image, told in zip(its, tries):
        words = true_words(one, other, placed, piece, image)
        if isinstance(told, str):
            if told not in words:
                return False
        elif words - {"marks"}:
            return False
        elif not is_right_tree(one, other, told, {**placed, piece: image}):
            return False
    return True


def bent_trees(rng, tree, pieces):
    """The tree, bent in one place: words exchanged, tries left out, pieces exchanged."""
    if isinstance(tree, str):
        return [word for word in WORDS + ("pieces", "", "Used", None, 0, True)
                if word != tree]
    piece, tries = tree
    found = [(other, tries) for other in range(pieces) if other != piece]
    found += [(float(piece), tries), (str(piece), tries), (piece,), (piece, tries, ()), tries,
              (piece, tries[:-1]), (piece, tries + tries[:1]), (piece, tries[::-1]), "pieces",
              (tries, piece), (piece, ()), (piece, None), piece, None, (None, tries), {}]
    if piece in (0, 1):
        found.append((bool(piece), tries))
    at = rng.randrange(len(tries))
    for bent in bent_trees(rng, tries[at], pieces):
        found.append((piece, tries[:at] + (bent,) + tries[at + 1:]))
    return found
