"""Operators that combine tables of the same cycle at each moment."""

from ateverymoment.masks import full_mask
from ateverymoment.pieces import met_pieces, pieces_of, table_of
from ateverymoment.tables import always, never, shortest


def both(table, other):
    """Return the table of the moments in each of the two tables."""
    return table_of(table[0], [(start, one & two) for start, (one, two) in met_pieces(table, other)])


def either(table, other):
    """Return the table of the moments in at least one of the two tables."""
    return table_of(table[0], [(start, one | two) for start, (one, two) in met_pieces(table, other)])


def without(table, other):
    """Return the table of the moments in the first table and not in the second one."""
    return table_of(table[0], [(start, one & ~two) for start, (one, two) in met_pieces(table, other)])


def just_one(table, other):
    """Return the table of the moments in exactly one of the two tables."""
    return table_of(table[0], [(start, one ^ two) for start, (one, two) in met_pieces(table, other)])


def opposite(table):
    """Return the table of the moments that are not in the table."""
    full = full_mask(table[0])
    return table_of(table[0], [(start, full ^ mask) for start, mask in pieces_of(table)])


def any_of(cycle, tables):
    """Return the table of the moments in at least one of the tables."""
    if len(tables) == 0:
        return never(cycle)
    if len(tables) == 1:
        return shortest(tables[0])
    # Halves keep the tables that meet small; one after the other, a long result would be met each time.
    middle = len(tables) // 2
    return either(any_of(cycle, tables[:middle]), any_of(cycle, tables[middle:]))


def all_of(cycle, tables):
    """Return the table of the moments in all of the tables."""
    if len(tables) == 0:
        return always(cycle)
    if len(tables) == 1:
        return shortest(tables[0])
    middle = len(tables) // 2
    return both(all_of(cycle, tables[:middle]), all_of(cycle, tables[middle:]))
