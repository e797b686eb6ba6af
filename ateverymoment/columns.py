"""Rows and their columns: parts of rows, and the rows that terms give."""


def places_of(columns, some):
    """Return a list of the places that some of the columns have among the columns."""
    return [columns.index(column) for column in some]


def part_of(row, places):
    """Return the row of the values at the places."""
    return tuple([row[place] for place in places])


def given_row(terms, row):
    """Return the row of the values of the columns with which the terms give the row, or None if there is none."""
    if len(row) != len(terms):
        return None
    values = {}
    for (form, item), value in zip(terms, row):
        wanted = values.setdefault(item, value) if form == "col" else item
        if wanted != value:
            return None
    return tuple([values[column] for column in sorted(values)])


def term_value(term, columns, row):
    """Return the value that the term has for a row with the columns."""
    form, item = term
    return row[columns.index(item)] if form == "col" else item
