"""Answers: rows with the moments at which they answer."""

from ateverymoment.combining import any_of
from ateverymoment.errors import DifferentCycles, OtherColumns
from ateverymoment.finding import first_difference, next_moment
from ateverymoment.tables import holds, never
from ateverymoment.values import sorted_rows


def make_answer(cycle, columns, pairs):
    """Return the answer in which each row answers at the moments of all its tables together."""
    tables = {}
    for row, table in pairs:
        tables.setdefault(row, []).append(table)
    return answer_of(cycle, columns, {row: any_of(cycle, tables[row]) for row in tables})


def answer_of(cycle, columns, tables):
    """Return the answer in which each row of the dict answers at the moments of its table, which is a shortest one."""
    none = never(cycle)
    rows = sorted_rows([row for row in tables if tables[row] != none])
    return cycle, columns, tuple([(row, tables[row][1]) for row in rows])


def tables_of(answer):
    """Return a dict of the tables of the rows of the answer, in ascending order of the rows."""
    cycle, _, entries = answer
    return {row: (cycle, lines) for row, lines in entries}


def check_cycles(answer, other):
    """Raise DifferentCycles if the answers have different cycles."""
    if answer[0] != other[0]:
        raise DifferentCycles("the answers have different cycles")


def rows_at(answer, moment):
    """Return the tuple of the rows that answer at the moment, in ascending order."""
    tables = tables_of(answer)
    return tuple([row for row in tables if holds(tables[row], moment)])


def row_table(answer, row):
    """Return the shortest table of the moments at which the row answers."""
    return tables_of(answer).get(row, never(answer[0]))


def moments_of(answer):
    """Return the table of the moments at which at least one row answers."""
    return any_of(answer[0], list(tables_of(answer).values()))


def first_row(answer):
    """Return the pair of the least moment at which some row answers and the least row then, or None."""
    return first_place([(next_moment(table, 0), row) for row, table in tables_of(answer).items()])


def first_apart(answer, other):
    """Return the pair of the least moment at which the answers are apart and the least row then, or None."""
    check_cycles(answer, other)
    if answer[1] != other[1]:
        raise OtherColumns("the answers have different columns")
    one, two = tables_of(answer), tables_of(other)
    none = never(answer[0])
    rows = sorted_rows(list(one) + list(two))
    return first_place([(first_difference(one.get(row, none), two.get(row, none)), row) for row in rows])


def first_place(places):
    """Return the first of the pairs (moment, row) with the least moment, or None. A moment may be None."""
    first = None
    for place in places:
        if place[0] is not None and (first is None or place[0] < first[0]):
            first = place
    return first
