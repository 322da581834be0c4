"""Columns of pieces."""

from nightpaper.blocks import Block
from nightpaper.heads import first_head
from nightpaper.markup import plain
from nightpaper.setting import set_rows


def piece_rows(piece, wide):
    """All rows of a piece's heading, and all of its body; NoFit where none of its heads fits."""
    number, head = first_head(piece.heads, wide, piece.most, piece.spaced)
    return head, set_rows(plain(piece.body), wide, True, 0)


def needed(piece, wide):
    """How many rows of a piece must stand."""
    head, body = piece_rows(piece, wide)
    return len(head) + min(piece.least, len(body))


def with_rules(highs):
    """How many rows pieces of so many rows have, with a row between any two neighbours."""
    return sum(highs) + max(len(highs) - 1, 0)


def parting(ranks, highs, room):
    """The numbers of the pieces that stand, in their order, and of those that leave, as they leave."""
    kept = list(range(len(ranks)))
    left = []
    while with_rules([highs[at] for at in kept]) > room:
        last = max(kept, key=lambda number: (ranks[number], number))
        kept.remove(last)
        left.append(last)
    return kept, left


def shares(ranks, leasts, bodies, rows):
    """How many rows of each body stand, where each has its least and the rows that are left go by rank."""
    many = list(leasts)
    for at in sorted(range(len(ranks)), key=lambda number: (ranks[number], number)):
        more = min(rows, bodies[at] - leasts[at])
        many[at] += more
        rows -= more
    return many


def stacked(names, texts, many, wide):
    """The rows of pieces that stand below one another, and where each stands."""
    rows = []
    stands = []
    for name, (head, body), share in zip(names, texts, many):
        if stands:
            rows.append("-" * wide)
        stands.append((name, len(rows), len(head), share))
        rows.extend(head + body[:share])
    return rows, stands


def column_of(pieces, wide, room):
    """The block of a column, where each of its pieces stands, and the names of those that left."""
    texts = [piece_rows(piece, wide) for piece in pieces]
    leasts = [min(piece.least, len(body)) for piece, (head, body) in zip(pieces, texts)]
    highs = [len(head) + least for (head, body), least in zip(texts, leasts)]
    kept, left = parting([piece.rank for piece in pieces], highs, room)
    many = shares(
        [pieces[at].rank for at in kept],
        [leasts[at] for at in kept],
        [len(texts[at][1]) for at in kept],
        room - with_rules([highs[at] for at in kept]),
    )
    rows, stands = stacked([pieces[at].name for at in kept], [texts[at] for at in kept], many, wide)
    block = Block(rows + [""] * (room - len(rows)), wide)
    return block, stands, [pieces[at].name for at in left]
