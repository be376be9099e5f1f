"""Webs: pieces with their kinds, ties, hubs and stiff ties."""

from otherhand.checks import first_twice, is_name, is_numbers, is_within
from otherhand.errors import (
    BadText,
    BadWeb,
    HandError,
    NoPiece,
    NoTie,
    TooMany,
    Twice,
)
from otherhand.given import need_hub, need_piece, need_row
from otherhand.texts import MOST_NEIGHBOURS, MOST_PIECES, items_of, read_parts, told_items

FEWEST_OF_A_HUB = 3


def need_web(value, part):
    if not isinstance(value, Web):
        raise BadWeb(part)


def is_pair(value):
    """Whether a value is a pair of integers."""
    return is_numbers(value) and len(value) == 2


def are_pairs(value):
    """Whether a value is a list of pairs of integers."""
    return isinstance(value, (list, tuple)) and all([is_pair(pair) for pair in value])


def ascending(pairs):
    """The pairs as tuples, each ascending."""
    return [(min(pair), max(pair)) for pair in pairs]


def need_none_twice(values):
    twice = first_twice(values)
    if twice is not None:
        raise Twice(twice)


def need_pieces(values, many):
    for value in values:
        if not is_within(value, 0, many - 1):
            raise NoPiece(value)


def need_kinds(kinds):
    if not isinstance(kinds, (list, tuple)) or not kinds:
        raise BadWeb("kinds")
    if not all([is_name(kind) for kind in kinds]):
        raise BadWeb("kinds")


def sorted_ties(ties, many):
    """The ties, ascending, if they are ties between so many pieces."""
    if not are_pairs(ties) or any([tie[0] == tie[1] for tie in ties]):
        raise BadWeb("ties")
    need_pieces([piece for tie in ties for piece in tie], many)
    need_none_twice(ascending(ties))
    return tuple(sorted(ascending(ties)))


def rows_of_neighbours(ties, many):
    """For each piece the tuple of its neighbours; the ties must make a web."""
    near = [[] for _ in range(many)]
    for low, high in ties:
        near[low].append(high)
        near[high].append(low)
    if any([len(row) > MOST_NEIGHBOURS for row in near]):
        raise BadWeb("neighbours")
    if not hang_together(near):
        raise BadWeb("apart")
    return tuple([tuple(sorted(row)) for row in near])


def hang_together(near):
    """Whether all pieces can be reached from the first one."""
    reached = [0]
    seen = {0: True}
    while reached:
        piece = reached.pop()
        for other in near[piece]:
            if other not in seen:
                seen[other] = True
                reached.append(other)
    return len(seen) == len(near)


def sorted_hubs(hubs, near):
    """The hubs, ascending, if these pieces can be hubs."""
    if not is_numbers(hubs):
        raise BadWeb("hubs")
    need_pieces(hubs, len(near))
    need_none_twice(hubs)
    if any([len(near[hub]) < FEWEST_OF_A_HUB for hub in hubs]):
        raise BadWeb("hub")
    return tuple(sorted(hubs))


def sorted_stiff(stiff, ties, hubs, near):
    """The stiff ties, ascending, if these ties can be stiff together."""
    if not are_pairs(stiff):
        raise BadWeb("stiff")
    known = {tie: True for tie in ties}
    for told, tie in zip(stiff, ascending(stiff)):
        if tie not in known:
            raise NoTie(told)
    need_none_twice(ascending(stiff))
    if not can_be_stiff(stiff, hubs, near):
        raise BadWeb("stiff")
    return tuple(sorted(ascending(stiff)))


def can_be_stiff(stiff, hubs, near):
    """Whether ties can be stiff together."""
    ends = [piece for tie in stiff for piece in tie]
    barred = {hub: True for hub in hubs}
    for end in ends:
        # One or two others, beside the other end of the tie.
        if end in barred or len(near[end]) not in (2, 3):
            return False
    return first_twice(ends) is None


class Web:
    """One or more pieces that hang together by ties."""

    def __init__(self, kinds, ties, hubs=(), stiff=()):
        need_kinds(kinds)
        self.kinds = tuple(kinds)
        self.ties = sorted_ties(ties, len(kinds))
        self.near = rows_of_neighbours(self.ties, len(kinds))
        self.hubs = sorted_hubs(hubs, self.near)
        self.stiff = sorted_stiff(stiff, self.ties, self.hubs, self.near)
        if len(kinds) > MOST_PIECES:
            raise TooMany("pieces", MOST_PIECES)
        self.marks = self.hubs + self.stiff
        self.is_tree = len(self.ties) == len(self.kinds) - 1

    def __eq__(self, other):
        return (
            isinstance(other, Web)
            and self.kinds == other.kinds
            and self.ties == other.ties
            and self.hubs == other.hubs
            and self.stiff == other.stiff
        )

    def __len__(self):
        return len(self.kinds)

    def __str__(self):
        hub_signs = {hub: "*" for hub in self.hubs}
        tie_signs = {tie: "=" for tie in self.stiff}
        return " ".join(told_items(self.kinds, self.ties, hub_signs, tie_signs))

    @staticmethod
    def read(text):
        """The web with this text."""
        kinds, ties, hubs, stiff = read_parts(text, ("*",), ("=",))
        return read_whole(text, kinds, ties, list(hubs), list(stiff))

    def neighbours(self, piece):
        """The neighbours of a piece, ascending."""
        need_piece(self, piece)
        return self.near[piece]

    def others(self, tie):
        """The other neighbours of the one and of the other piece of a tie."""
        if not is_numbers(tie) or tuple(tie) not in self.ties:
            raise NoTie(tie)
        low, high = tie
        ends = [(low, high), (high, low)]
        return tuple([tuple([far for far in self.near[end] if far != by]) for end, by in ends])

    def seats(self, hub):
        """The seats of a hub, None for the bare one."""
        need_hub(self, hub)
        near = self.near[hub]
        return (None,) + near if len(near) < MOST_NEIGHBOURS else near

    def with_kind(self, piece, kind):
        """The web in which this piece has this kind."""
        need_piece(self, piece)
        if not is_name(kind):
            raise BadWeb("kind")
        kinds = list(self.kinds)
        kinds[piece] = kind
        return Web(kinds, self.ties, self.hubs, self.stiff)

    def renumbered(self, row):
        """The web in which the piece at place k of the row is piece k."""
        need_row(len(self), row, "row")
        images = {piece: at for at, piece in enumerate(row)}
        kinds = [self.kinds[piece] for piece in row]
        ties = [(images[low], images[high]) for low, high in self.ties]
        stiff = [(images[low], images[high]) for low, high in self.stiff]
        return Web(kinds, ties, [images[hub] for hub in self.hubs], stiff)


def read_whole(text, kinds, ties, hubs, stiff):
    """The web of what a text tells; its last item cannot stand if it is none."""
    try:
        return Web(kinds, ties, hubs, stiff)
    except HandError:
        raise BadText(0, len(items_of(text)) - 1) from None
