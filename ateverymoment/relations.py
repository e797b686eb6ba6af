"""The operators of questions as functions of answers, but for totals and ways."""

from ateverymoment.answers import answer_of, check_cycles, make_answer, tables_of
from ateverymoment.columns import part_of, places_of, term_value
from ateverymoment.combining import both, opposite, without
from ateverymoment.passing import henceforth, lately, once, shifted, since, soon, until
from ateverymoment.questions import ordered
from ateverymoment.tables import never
from ateverymoment.values import compare_values


def joined(answer, other):
    """Return the answer to "both"."""
    check_cycles(answer, other)
    common = [column for column in answer[1] if column in other[1]]
    given = answer[1] + other[1]
    columns = ordered(given)
    places = places_of(given, columns)
    fitting = rows_by_part(other, common)
    common_places = places_of(answer[1], common)
    tables = {}
    for row, table in tables_of(answer).items():
        for other_row, other_table in fitting.get(part_of(row, common_places), []):
            tables[part_of(row + other_row, places)] = both(table, other_table)
    return answer_of(answer[0], columns, tables)


def rows_by_part(answer, some):
    """Return a dict: for each part for some of the columns a list of the pairs (row, table) with this part."""
    places = places_of(answer[1], some)
    found = {}
    for row, table in tables_of(answer).items():
        found.setdefault(part_of(row, places), []).append((row, table))
    return found


def merged(answer, other):
    """Return the answer to "either"."""
    check_cycles(answer, other)
    pairs = list(tables_of(answer).items()) + list(tables_of(other).items())
    return make_answer(answer[0], answer[1], pairs)


def excepted(answer, other):
    """Return the answer to "unless"."""
    check_cycles(answer, other)
    cycle, columns, _ = answer
    places = places_of(columns, other[1])
    barred = tables_of(other)
    none = never(cycle)
    tables = {row: without(table, barred.get(part_of(row, places), none)) for row, table in tables_of(answer).items()}
    return answer_of(cycle, columns, tables)


def kept_columns(answer, columns):
    """Return the answer to "only"."""
    places = places_of(answer[1], columns)
    return make_answer(answer[0], columns, [(part_of(row, places), table) for row, table in tables_of(answer).items()])


def chosen(answer, test, left, right):
    """Return the answer to "where"."""
    cycle, columns, entries = answer
    return cycle, columns, tuple([
        (row, lines) for row, lines in entries
        if passes(test, term_value(left, columns, row), term_value(right, columns, row))
    ])


def passes(test, one, other):
    """Return True if the test holds for the two values, otherwise False."""
    if test == "less":
        return compare_values(one, other) == -1
    return (one == other) == (test == "same")


def moved(answer, kind, number):
    """Return the answer to "shift", "once", "lately", "soon" or "henceforth"; the number is n or within."""
    tables = {row: moved_table(table, kind, number) for row, table in tables_of(answer).items()}
    return answer_of(answer[0], answer[1], tables)


def moved_table(table, kind, number):
    """Return the table of a row in time, from the table of the row."""
    if kind == "shift":
        return shifted(table, number)
    if kind == "once":
        return once(table, within=number)
    if kind == "lately":
        return lately(table, within=number)
    if kind == "soon":
        return soon(table, within=number)
    return henceforth(table, within=number)


def followed(answer, other, kind):
    """Return the answer to "since", "sincenot", "until" or "untilnot"; the other answer takes the place of Q."""
    check_cycles(answer, other)
    cycle, columns, _ = other
    places = places_of(columns, answer[1])
    leading = tables_of(answer)
    none = never(cycle)
    tables = {}
    for row, table in tables_of(other).items():
        tables[row] = followed_table(leading.get(part_of(row, places), none), table, kind)
    return answer_of(cycle, columns, tables)


def followed_table(table, other, kind):
    """Return the table of a row that is followed, from the table of its part for P and its own table for Q."""
    if kind in ("sincenot", "untilnot"):
        table = opposite(table)
    return since(table, other) if kind in ("since", "sincenot") else until(table, other)
