"""The rows of questions that look at one moment only, from the rows of their parts at this moment.

Rows at a moment are the keys of a dict.
"""

from ateverymoment.columns import part_of, places_of, term_value
from ateverymoment.questions import ordered
from ateverymoment.relations import passes
from ateverymoment.totals import worth


def momentary_rows(question, columns, given):
    """Return the rows of a question that is not a "fact", from the columns of its parts and their rows."""
    kind = question[0]
    if kind == "both":
        return joined_rows(columns[0], columns[1], given[0], given[1])
    if kind == "either":
        return united(given)
    if kind == "unless":
        places = places_of(columns[0], columns[1])
        return {row: True for row in given[0] if part_of(row, places) not in given[1]}
    if kind == "only":
        places = places_of(columns[0], question[1])
        return {part_of(row, places): True for row in given[0]}
    if kind == "where":
        return chosen_rows(question, columns[0], given[0])
    if kind == "linked":
        return linked_rows(given[0])
    return total_rows(question, columns[0], given[0])


def united(given):
    """Return the rows that are in at least one of the dicts of rows."""
    return {row: True for rows in given for row in rows}


def joined_rows(columns, others, rows, other_rows):
    """Return the rows of "both"."""
    common = [column for column in columns if column in others]
    places, other_places = places_of(columns, common), places_of(others, common)
    order = places_of(columns + others, ordered(columns + others))
    found = {}
    for row in rows:
        for other in other_rows:
            if part_of(row, places) == part_of(other, other_places):
                found[part_of(row + other, order)] = True
    return found


def chosen_rows(question, columns, rows):
    """Return the rows of "where"."""
    _, test, left, right, _ = question
    return {
        row: True for row in rows
        if passes(test, term_value(left, columns, row), term_value(right, columns, row))
    }


def linked_rows(rows):
    """Return the rows of "linked"."""
    leads = {}
    for one, other in rows:
        leads.setdefault(one, []).append(other)
    found = {}
    for start in leads:
        waiting = list(leads[start])
        while waiting:
            other = waiting.pop()
            if (start, other) not in found:
                found[(start, other)] = True
                waiting.extend(leads.get(other, []))
    return found


def total_rows(question, columns, rows):
    """Return the rows of "count", "sum", "least" and "most"."""
    kind, new, keep = question[0], question[1], question[-2]
    places = places_of(columns, keep)
    groups = {}
    for row in rows:
        groups.setdefault(part_of(row, places), []).append(row)
    order = places_of((new,) + keep, ordered((new,) + keep))
    found = {}
    for part, members in groups.items():
        total = len(members)
        if kind != "count":
            place = columns.index(question[2])
            total = worth(kind, [row[place] for row in members])
        found[part_of((total,) + part, order)] = True
    return found
