"""Plain readings of the document, made moment by moment, and small tables to try them on.

Nothing here uses the package, so that a fault of the package is not in the expected value, too.
"""

from itertools import combinations, product
from random import Random


def plain_holds(table, moment):
    """[6]: the phase of the moment is one of the line that covers it."""
    cycle, lines = table
    if moment < 0:
        return False
    covering = [spans for start, spans in lines if start <= moment][-1]
    return any(low <= moment % cycle < high for low, high in covering)


def row_of(table, count):
    """Tell for each of the first moments whether it is in the table."""
    return [plain_holds(table, moment) for moment in range(count)]


def last_start(*tables):
    return max(lines[-1][0] for _, lines in tables)


def spans_from(phases):
    """[5]: the phases, as spans in one form."""
    spans = []
    for phase in sorted(phases):
        if spans and spans[-1][1] == phase:
            spans[-1] = (spans[-1][0], phase + 1)
        else:
            spans.append((phase, phase + 1))
    return tuple(spans)


def steady_end(cycle, row, begin):
    """[7]: the first moment that is no longer in the longest steady stretch from begin on, or None."""
    for moment in range(begin, len(row)):
        for earlier in range(begin, moment):
            if earlier % cycle == moment % cycle and row[earlier] != row[moment]:
                return moment
    return None


def plain_shortest(cycle, row):
    """[7]: the shortest table of a set whose moments beyond the row go on as the last cycle of the row."""
    lines = []
    begin = 0
    while begin is not None:
        end = steady_end(cycle, row, begin)
        moments = range(begin, len(row) if end is None else end)
        assert len(moments) >= cycle
        lines.append((begin, spans_from({moment % cycle for moment in moments if row[moment]})))
        begin = end
    return cycle, tuple(lines)


def all_small_tables(cycle, starts, most):
    """All tables with at most so many lines after the first one, which start at some of the starts."""
    masks = [spans_from({p for p in range(cycle) if bits[p]}) for bits in product((False, True), repeat=cycle)]
    for many in range(most + 1):
        for later in combinations(starts, many):
            for chosen in product(masks, repeat=many + 1):
                yield cycle, tuple(zip((0,) + later, chosen))


def some_table(chance, cycle, most=5, gap=None):
    """A table that need not be shortest: with short lines, and lines that can be joined."""
    gap = gap or 3 * cycle
    start, lines = 0, []
    for _ in range(chance.randint(1, most)):
        share = chance.choice((0, 1, 1, 2, 3, 4))
        phases = {phase for phase in range(cycle) if chance.randrange(4) < share}
        if lines and chance.randrange(4) == 0:
            lines.append((start, lines[-1][1]))
        else:
            lines.append((start, spans_from(phases)))
        start += chance.randint(1, gap)
    return cycle, tuple(lines)


def some_tables(seed, count, cycles=(1, 2, 3, 4, 5, 7)):
    chance = Random(seed)
    return [some_table(chance, chance.choice(cycles)) for _ in range(count)]


def some_pairs(seed, count, cycles=(1, 2, 3, 4, 5, 7)):
    chance = Random(seed)
    pairs = []
    for _ in range(count):
        cycle = chance.choice(cycles)
        pairs.append((some_table(chance, cycle), some_table(chance, cycle)))
    return pairs


def displaced(table, by):
    """The same table with all later lines that much later; by is a multiple of the cycle."""
    cycle, lines = table
    return cycle, ((0, ()),) + tuple((start + by, spans) for start, spans in lines)


def from_moments(cycle, moments, count):
    """The shortest table of just these moments, all of which are less than count."""
    return plain_shortest(cycle, [moment in moments for moment in range(count)] + [False] * (2 * cycle))
