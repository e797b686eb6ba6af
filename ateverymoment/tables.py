"""Tables: sets of moments, described relative to a cycle."""

from ateverymoment.masks import full_mask
from ateverymoment.phases import is_spans
from ateverymoment.pieces import pieces_of, table_of

LONGEST_CYCLE = 60


def is_cycle(cycle):
    """Return True if the integer is a cycle, otherwise False."""
    return 1 <= cycle <= LONGEST_CYCLE


def is_table(table):
    """Return True if the pair is a table, otherwise False."""
    cycle, lines = table
    if not is_cycle(cycle) or len(lines) == 0 or lines[0][0] != 0:
        return False
    before = -1
    for start, spans in lines:
        if start <= before or not is_spans(spans, cycle):
            return False
        before = start
    return True


def line_index(table, moment):
    """Return the index of the line that covers the moment, 0 for a negative integer."""
    lines = table[1]
    low, high = 0, len(lines)
    while high - low > 1:
        middle = (low + high) // 2
        if lines[middle][0] <= moment:
            low = middle
        else:
            high = middle
    return low


def holds(table, moment):
    """Return True if the integer is a moment in the table, otherwise False."""
    if moment < 0:
        return False
    cycle, lines = table
    phase = moment % cycle
    return any([low <= phase < high for low, high in lines[line_index(table, moment)][1]])


def shortest(table):
    """Return the shortest table of the same set."""
    return table_of(table[0], pieces_of(table))


def is_shortest(table):
    """Return True if the table is the shortest table of its set, otherwise False."""
    return shortest(table) == table


def never(cycle):
    """Return the shortest table of no moment."""
    return cycle, ((0, ()),)


def always(cycle):
    """Return the shortest table of all moments."""
    return cycle, ((0, ((0, cycle),)),)


def span_table(cycle, start, end):
    """Return the shortest table of the moments from start up to end, or from start on if end is None."""
    pieces = [(0, 0), (start, full_mask(cycle))]
    if end is not None:
        pieces.append((end, 0))
    return table_of(cycle, pieces)
