"""What DOC.md tells, done by trying everything: for small webs only."""

import random
from itertools import combinations, product

from otherhand.bodies import Body
from otherhand.errors import HandError
from otherhand.webs import Web


def wrong_pairs(row):
    """How many pairs of a row are in the wrong order."""
    return sum(1 for one, other in combinations(row, 2) if one > other)


def all_rows(web, other):
    """All renamings of a web to another one, ascending, piece by piece."""
    if len(web) != len(other):
        return []
    ties = {frozenset(tie) for tie in web.ties}
    its = {frozenset(tie) for tie in other.ties}
    stiff = {frozenset(tie) for tie in web.stiff}
    its_stiff = {frozenset(tie) for tie in other.stiff}
    found = []

    def fits(row, image):
        piece = len(row)
        if image in row or web.kinds[piece] != other.kinds[image]:
            return False
        if (piece in web.hubs) != (image in other.hubs):
            return False
        for ahead, placed in enumerate(row):
            pair, its_pair = frozenset((ahead, piece)), frozenset((placed, image))
            if (pair in ties) != (its_pair in its):
                return False
            if (pair in stiff) != (its_pair in its_stiff):
                return False
        return True

    def extend(row):
        if len(row) == len(web):
            found.append(tuple(row))
            return
        for image in range(len(other)):
            if fits(row, image):
                extend(row + [image])

    extend([])
    return found


def others_of(web, end, far):
    return [piece for piece in neighbours(web, end) if piece != far]


def neighbours(web, piece):
    return sorted([a + b - piece for a, b in web.ties if piece in (a, b)])


def leads(web, other, row, setting):
    """The setting of other to which a row leads one of web."""
    hands = dict(zip(web.hubs, setting))
    sides = dict(zip(web.stiff, setting[len(web.hubs):]))
    led = {}
    for hub, hand in hands.items():
        images = [row[piece] for piece in neighbours(web, hub)]
        led[row[hub]] = hand * (-1) ** wrong_pairs(images)
    for (low, high), side in sides.items():
        for end, far in ((low, high), (high, low)):
            beside = others_of(web, end, far)
            if len(beside) == 2:
                side *= (-1) ** wrong_pairs([row[piece] for piece in beside])
        led[tuple(sorted((row[low], row[high])))] = side
    return tuple(led[mark] for mark in other.hubs + other.stiff)


def mirror(web, setting):
    hubs = len(web.hubs)
    return tuple(-sign for sign in setting[:hubs]) + tuple(setting[hubs:])


def rows_leading(one, other):
    """All rows that lead one body to another one."""
    return [
        row
        for row in all_rows(one.web, other.web)
        if leads(one.web, other.web, row, one.setting) == other.setting
    ]


def settings(web):
    return list(product((-1, 1), repeat=len(web.marks)))


def sorts_by_trying(web):
    """For each setting the sorted list of all of its sort."""
    rows = all_rows(web, web)
    return {one: sorted({leads(web, web, row, one) for row in rows}) for one in settings(web)}


def any_web(rng, most=7, kinds="ab", loops=2, stiff=0.6, hubs=0.8):
    """A small web, made by chance from a seeded generator."""
    while True:
        many = rng.randint(1, most)
        ties = [(rng.randrange(piece), piece) for piece in range(1, many)]
        for _ in range(rng.randint(0, loops)):
            if many > 2:
                ties.append(tuple(sorted(rng.sample(range(many), 2))))
        ties = sorted(set(ties))
        near = [sum(piece in tie for tie in ties) for piece in range(many)]
        stiff_ties = []
        for tie in rng.sample(ties, len(ties)):
            ends = {end for held in stiff_ties for end in held}
            if rng.random() < stiff and all(near[end] in (2, 3) for end in tie):
                if not ends & set(tie):
                    stiff_ties.append(tie)
        ends = {end for tie in stiff_ties for end in tie}
        told_hubs = [
            piece
            for piece in range(many)
            if near[piece] > 2 and piece not in ends and rng.random() < hubs
        ]
        row = rng.sample(range(many), many)
        try:
            web = Web([rng.choice(kinds) for _ in range(many)], ties, told_hubs, stiff_ties)
        except HandError:
            continue
        return web.renumbered(row)


def some_webs(seed, many, **asked):
    rng = random.Random(seed)
    return [any_web(rng, **asked) for _ in range(many)]


def any_setting(rng, web):
    return tuple(rng.choice((-1, 1)) for _ in web.marks)


def any_body(rng, web):
    return Body(web, any_setting(rng, web))


def any_row(rng, many):
    return tuple(rng.sample(range(many), many))


def web_of(many, ties, hubs=(), stiff=(), kinds=None):
    """A web of one kind, where none are told."""
    return Web(kinds or ["a"] * many, ties, hubs, stiff)


def web_with_all_hubs(many, ties, kinds=None):
    """A web in which each piece with three or more neighbours is a hub."""
    near = [sum(piece in tie for tie in ties) for piece in range(many)]
    hubs = [piece for piece in range(many) if near[piece] > 2]
    return Web(kinds or ["a"] * many, ties, hubs, [])


def web_by_chance(rng, kinds, ties, hubs=1, stiff=0):
    """A web of these pieces, hubs and stiff ties by chance, numbered anew; None if there is none."""
    near = [sum(piece in tie for tie in ties) for piece in range(len(kinds))]
    if max(near) > 4:
        return None
    stiff_ties = []
    for tie in rng.sample(ties, len(ties)):
        ends = {end for held in stiff_ties for end in held}
        if rng.random() < stiff and all(near[end] in (2, 3) for end in tie) and not ends & set(tie):
            stiff_ties.append(tie)
    ends = {end for tie in stiff_ties for end in tie}
    told = [piece for piece in range(len(kinds))
            if near[piece] > 2 and piece not in ends and rng.random() < hubs]
    return Web(kinds, ties, told, stiff_ties).renumbered(any_row(rng, len(kinds)))


def like_arms(rng, most=16):
    """Kinds and ties of a middle piece with several like arms, perhaps one other."""
    arms = rng.randint(2, 4)
    many = rng.randint(1, (most - 1) // arms)
    inner = [(rng.randrange(piece), piece) for piece in range(1, many)]
    arm_kinds = [rng.choice("aab") for _ in range(many)]
    kinds, ties = ["a"], []
    for _ in range(arms):
        first = len(kinds)
        kinds += arm_kinds
        ties += [(0, first)] + [(first + low, first + high) for low, high in inner]
    if arms < 4 and len(kinds) < most and rng.random() < 0.4:
        ties.append((0, len(kinds)))
        kinds.append("b")
    return kinds, ties


def like_halves(rng, most=16):
    """Kinds and ties of two like halves with a tie between them."""
    many = rng.randint(1, most // 2)
    inner = [(rng.randrange(piece), piece) for piece in range(1, many)]
    kinds = [rng.choice("aab") for _ in range(many)]
    ties = inner + [(low + many, high + many) for low, high in inner] + [(0, many)]
    return kinds + kinds, ties


def parted_by_rows(values, rows, image):
    """The values in ascending tuples, in order, of those that some row leads to one another."""
    found = []
    for value in values:
        part = tuple(sorted({value} | {image(row, value) for row in rows}))
        if part not in found:
            found.append(part)
    return tuple(found)
