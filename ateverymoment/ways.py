"""Chains of rows from one value to another: at one moment, or with one step after the other in time."""

from heapq import heappop, heappush

from ateverymoment.answers import answer_of, tables_of
from ateverymoment.columns import part_of, places_of
from ateverymoment.errors import OtherColumns
from ateverymoment.finding import end_of, last_moment, next_moment
from ateverymoment.masks import full_mask, mask_of
from ateverymoment.pieces import table_of
from ateverymoment.questions import ordered
from ateverymoment.tables import always, line_index, span_table

# How many starts are looked at together where values are linked.
BLOCK = 64


def all_starts(tables):
    """Return a list of the starts of all lines of the tables, in ascending order. Between them no mask changes."""
    return sorted(set([start for table in tables for start, _ in table[1]]))


def mask_at(table, moment):
    """Return the mask of the line that covers the moment."""
    return mask_of(table[1][line_index(table, moment)][1])


def linked(answer):
    """Return the answer to "linked"."""
    cycle, columns, _ = answer
    tables = tables_of(answer)
    starts = all_starts(list(tables.values()))
    pieces = {}
    for low in range(0, len(starts), BLOCK):
        block = starts[low:low + BLOCK]
        # A row that no longer answers in the next block is not met there.
        ended = [(start, 0) for start in starts[low + BLOCK:low + BLOCK + 1]]
        for row, cells in linked_cells(tables, block).items():
            pieces.setdefault(row, [(0, 0)]).extend(cell_pieces(cells, block, cycle) + ended)
    return answer_of(cycle, columns, {row: table_of(cycle, pieces[row]) for row in pieces})


def linked_cells(tables, block):
    """Return a dict of the cells of the linked rows, from a dict of the tables of the rows.

    Cells are the bits of an integer: the masks at all starts of the block, the one at the first start lowest.
    """
    leads = {}
    for (one, other), table in tables.items():
        cells = cells_of_block(table, block)
        if cells != 0:
            leads.setdefault(one, {})[other] = cells
    for middle in list(leads):
        onward = list(leads[middle].items())
        for ends in list(leads.values()):
            before = ends.get(middle, 0)
            if before != 0:
                add_chains(ends, before, onward)
    return {(one, other): cells for one, ends in leads.items() for other, cells in ends.items()}


def add_chains(ends, before, onward):
    """Add to the ends the values to which the pairs (value, cells) lead on, where `before` has the same cells."""
    for other, cells in onward:
        common = before & cells
        if common != 0:
            ends[other] = ends.get(other, 0) | common


def cells_of_block(table, block):
    """Return the cells of the table."""
    cells = 0
    for start in reversed(block):
        cells = (cells << table[0]) | mask_at(table, start)
    return cells


def cell_pieces(cells, block, cycle):
    """Return a list of the pieces that the cells tell."""
    full = full_mask(cycle)
    return [(start, (cells >> (index * cycle)) & full) for index, start in enumerate(block)]


def steps_of(answer, x, y):
    """Return a list of triples: the value for x and the value for y of a row, and the table of the row."""
    places = places_of(answer[1], (x, y))
    return [part_of(row, places) + (table,) for row, table in tables_of(answer).items()]


def indexes_by_value(steps, place):
    """Return a dict: for each value that steps have at the place a list of the indexes of these steps."""
    found = {}
    for index, step in enumerate(steps):
        found.setdefault(step[place], []).append(index)
    return found


def ways(answer, x, y):
    """Return the answer to "way"."""
    cycle, columns, _ = answer
    steps = steps_of(answer, x, y)
    leading = indexes_by_value(steps, 1)
    order = places_of((x, y), columns)
    tables = {}
    for goal in leading:
        # Whoever has a way at a moment has it at all moments before.
        for start, end in latest_ends(steps, leading, goal).items():
            tables[part_of((start, goal), order)] = always(cycle) if end is None else span_table(cycle, 0, end)
    return answer_of(cycle, columns, tables)


def latest_ends(steps, leading, goal):
    """Return a dict: for each value with a way to the goal 1 more than the last moment at which it has one.

    No last moment is None. `leading` has the indexes of the steps that lead to a value.
    """
    found = {}
    waiting = []
    for index in leading[goal]:
        push_end(waiting, end_of(steps[index][2]), index)
    # The latest ends are taken first. A way that goes on from one of them ends before it, or never.
    while waiting:
        rank, number, index = heappop(waiting)
        value = steps[index][0]
        if value not in found:
            found[value] = None if rank == 0 else -number
            for before in leading.get(value, []):
                push_end(waiting, end_before(steps[before][2], found[value]), before)
    return found


def push_end(waiting, end, index):
    """Add a step that can be taken before the end, so that the heap gives the latest ends first. 0 is no moment."""
    if end is None:
        heappush(waiting, (0, 0, index))
    elif end > 0:
        heappush(waiting, (1, -end, index))


def end_before(table, end):
    """Return 1 more than the last moment in the table that is less than the last one before the end, or 0."""
    if end is None:
        return end_of(table)
    last = last_moment(table, end - 2)
    return 0 if last is None else last + 1


def journey(answer, x, y, start, goal, moment):
    """Return one of the best journeys from the start to the goal, not before the moment, or None."""
    if x == y or ordered((x, y)) != answer[1]:
        raise OtherColumns("the columns of the answer are not just these two")
    arrivals = first_arrivals(steps_of(answer, x, y), start, goal, moment)
    if goal not in arrivals:
        return None
    found = [arrivals[goal]]
    while found[-1][1] != start:
        found.append(arrivals[found[-1][1]])
    return tuple(found[::-1])


def first_arrivals(steps, start, goal, moment):
    """Return a dict: for each value that can be reached, up to the goal, the first step (moment, one, other) to it."""
    leaving = indexes_by_value(steps, 0)
    found = {}
    waiting = []
    push_departures(waiting, steps, leaving.get(start, []), moment)
    # The earliest steps are taken first. Those that go on from them are later.
    while waiting and goal not in found:
        now, index = heappop(waiting)
        one, other, _ = steps[index]
        if other not in found:
            found[other] = (now, one, other)
            push_departures(waiting, steps, leaving.get(other, []), now + 1)
    return found


def push_departures(waiting, steps, indexes, moment):
    """Add the steps with these indexes to the heap, each at the first moment from the given one on."""
    for index in indexes:
        found = next_moment(steps[index][2], moment)
        if found is not None:
            heappush(waiting, (found, index))
