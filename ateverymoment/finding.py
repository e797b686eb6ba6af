"""Finding the moments of a table."""

from ateverymoment.combining import just_one
from ateverymoment.masks import count_within, first_within, last_within, mask_of, nth_from
from ateverymoment.passing import shifted
from ateverymoment.pieces import pieces_of, stretches_of
from ateverymoment.tables import line_index


def next_moment(table, moment):
    """Return the least moment in the table that is not less than the integer, or None."""
    cycle, lines = table
    index = line_index(table, moment)
    for start, end, spans in stretches_of(lines[index:]):
        found = first_within(mask_of(spans), cycle, max(start, moment), end)
        if found is not None:
            return found
    return None


def last_moment(table, moment):
    """Return the greatest moment in the table that is not greater than the integer, or None."""
    cycle, lines = table
    index = line_index(table, moment)
    end = moment + 1
    for start, spans in reversed(lines[:index + 1]):
        found = last_within(mask_of(spans), cycle, start, end)
        if found is not None:
            return found
        end = start
    return None


def count_before(table, moment):
    """Return the number of moments in the table that are less than the integer."""
    total = 0
    for start, end, mask in stretches_of(pieces_of(table)):
        bound = moment if end is None else min(moment, end)
        if start < bound:
            total = total + count_within(mask, table[0], start, bound)
    return total


def nth_moment(table, n):
    """Return moment number n in the table, counted from 0, or None if there are not so many."""
    cycle = table[0]
    left = n
    for start, end, mask in stretches_of(pieces_of(table)):
        if mask != 0:
            many = None if end is None else count_within(mask, cycle, start, end)
            if many is None or left < many:
                return nth_from(mask, cycle, start, left)
            left = left - many
    return None


def is_endless(table):
    """Return True if there are endlessly many moments in the table, otherwise False."""
    return table[1][-1][1] != ()


def end_of(table):
    """Return 1 more than the greatest moment in the table, 0 if there is none, or None if it is endless."""
    if is_endless(table):
        return None
    last = last_moment(table, table[1][-1][0])
    if last is None:
        return 0
    return last + 1


def turns(table):
    """Return the table of the moments at which the set turns."""
    return just_one(table, shifted(table, -1))


def first_difference(table, other):
    """Return the least moment that is in exactly one of the tables, or None."""
    return next_moment(just_one(table, other), 0)
