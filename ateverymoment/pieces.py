"""Pieces: what the functions of tables work on.

A piece is a pair (start, held). It lasts up to the start of the next piece, the last one
for ever. `held` is the mask of the piece, or a pair of masks where two tables are met.
The first piece starts at 0. The others start in ascending order, but several pieces may
have the same start: then all but the last of these have no moment. So pieces can be
cut off and put in front of others without looking at what is left of each.
"""

from ateverymoment.errors import DifferentCycles
from ateverymoment.masks import covered_mask, first_within, mask_of, mask_spans


def pieces_of(table):
    """Return the pieces of a table, one for each line."""
    return [(start, mask_of(spans)) for start, spans in table[1]]


def stretches_of(pieces):
    """Return a triple (start, end, held) for each piece that has a moment. No end is None."""
    ends = [start for start, _ in pieces[1:]] + [None]
    return [(start, end, held) for (start, held), end in zip(pieces, ends) if end is None or start < end]


def met_pieces(table, other):
    """Return the pieces of two tables together: each holds the pair of the masks of both."""
    if table[0] != other[0]:
        raise DifferentCycles("the tables have different cycles")
    changes = [(start, 0, mask) for start, mask in pieces_of(table)]
    changes = changes + [(start, 1, mask) for start, mask in pieces_of(other)]
    one = two = 0
    met = []
    for start, place, mask in sorted(changes):
        if place == 0:
            one = mask
        else:
            two = mask
        met.append((start, (one, two)))
    return met


def table_of(cycle, pieces):
    """Return the shortest table of the set that the pieces tell."""
    lines = []
    begin = seen = inside = 0
    for start, end, mask in stretches_of(pieces):
        turn = first_within((mask ^ inside) & seen, cycle, start, end)
        if turn is not None:
            inside = inside | (mask & covered_mask(cycle, start, turn))
            lines.append((begin, mask_spans(inside, cycle)))
            begin, seen, inside = turn, 0, 0
        cover = covered_mask(cycle, max(start, begin), end)
        seen = seen | cover
        inside = inside | (mask & cover)
    lines.append((begin, mask_spans(inside, cycle)))
    return cycle, tuple(lines)
