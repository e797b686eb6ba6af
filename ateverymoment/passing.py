"""Operators in time: what was, what will be, and what has been since or will be until."""

from ateverymoment.combining import any_of, either, opposite
from ateverymoment.masks import first_within, last_within, phase_bit, turned_mask
from ateverymoment.pieces import met_pieces, pieces_of, stretches_of, table_of
from ateverymoment.tables import always, shortest, span_table


def shifted(table, n):
    """Return the table of the moments t for which t + n is in the table."""
    cycle = table[0]
    pieces = [(max(0, start - n), turned_mask(mask, cycle, n)) for start, mask in pieces_of(table)]
    return table_of(cycle, [(0, 0)] + pieces)


def once(table, *, within=None):
    """Return the table of the moments t for which some moment from t - within up to t is in the table."""
    if within is None:
        return since(always(table[0]), table)
    if within >= table[0] - 1:
        return far_once(table, within)
    return near_once(table, within)


def far_once(table, within):
    """Return the table of "once" if within leaves no gap between two moments of one line."""
    cycle = table[0]
    spans = []
    for start, end, mask in stretches_of(pieces_of(table)):
        first = first_within(mask, cycle, start, end)
        if first is not None and end is None:
            spans.append(span_table(cycle, first, None))
        elif first is not None:
            spans.append(span_table(cycle, first, last_within(mask, cycle, start, end) + within + 1))
    return any_of(cycle, spans)


def near_once(table, within):
    """Return the table of "once", found in steps each of which about doubles the moments looked back at."""
    found = shortest(table)
    reached = 0
    while reached < within:
        step = min(reached + 1, within - reached)
        found = either(found, shifted(found, -step))
        reached = reached + step
    return found


def lately(table, *, within=None):
    """Return the table of the moments t for which every moment from t - within up to t is in the table."""
    return opposite(once(opposite(table), within=within))


def soon(table, *, within=None):
    """Return the table of the moments t for which some moment from t up to t + within is in the table."""
    if within is None:
        return until(always(table[0]), table)
    return shifted(once(table, within=within), within)


def henceforth(table, *, within=None):
    """Return the table of the moments t for which every moment from t up to t + within is in the table."""
    return opposite(soon(opposite(table), within=within))


def swept_mask(phases, one, two, held):
    """Return the mask of the phases at which "since" holds, or "until" if the phases go back in time.

    `one` and `two` are the masks of A and B; `held` is 1 if it held just before the first phase, otherwise 0.
    """
    mask = 0
    for phase in phases:
        held = phase_bit(two, phase) | (phase_bit(one, phase) & held)
        mask = mask | (held << phase)
    return mask


# In the two functions below a stretch needs two masks. What holds outside of it is felt
# in the cycle next to it. A whole cycle either hands this on as it is or does not let it
# matter any more, so all cycles farther in are like the second one.


def since(table, other):
    """Return the table of the moments t with some u <= t in the other table, and all v with u < v <= t in the table."""
    cycle = table[0]
    pieces = []
    held = 0
    for start, end, (one, two) in stretches_of(met_pieces(table, other)):
        phases = [moment % cycle for moment in range(start, start + cycle)]
        last = swept_mask(phases, one, two, held)
        pieces.append((start, last))
        if end is None or start + cycle < end:
            last = swept_mask(phases, one, two, phase_bit(last, phases[-1]))
            pieces.append((start + cycle, last))
        if end is not None:
            held = phase_bit(last, (end - 1) % cycle)
    return table_of(cycle, pieces)


def until(table, other):
    """Return the table of the moments t with some u >= t in the other table, and all v with t <= v < u in the table."""
    cycle = table[0]
    pieces = []
    held = 0
    for start, end, (one, two) in reversed(stretches_of(met_pieces(table, other))):
        # In an endless stretch a u, if there is one, is less than a cycle away. So the stretch may be swept
        # as if it ended anywhere with nothing held; the cycle next to that end is then left out.
        bound = start if end is None else end
        phases = [moment % cycle for moment in reversed(range(bound - cycle, bound))]
        first = swept_mask(phases, one, two, held)
        if end is not None:
            pieces.append((max(start, end - cycle), first))
        if end is None or start < end - cycle:
            first = swept_mask(phases, one, two, phase_bit(first, phases[-1]))
            pieces.append((start, first))
        held = phase_bit(first, start % cycle)
    return table_of(cycle, pieces[::-1])
