"""Words, values and rows, and their order."""

MOST_VALUES = 8


def is_word(text):
    """Return True if the string is a word, otherwise False."""
    return text != "" and all(["a" <= sign <= "z" for sign in text])


def is_value(value):
    """Return True if the integer or string is a value, otherwise False."""
    return not isinstance(value, str) or is_word(value)


def is_row(row):
    """Return True if the tuple of integers and strings is a row, otherwise False."""
    return len(row) <= MOST_VALUES and all([is_value(value) for value in row])


def value_key(value):
    """Return what Python orders as values are ordered: integers and words cannot be compared themselves."""
    return (1, value) if isinstance(value, str) else (0, value)


def row_key(row):
    """Return what Python orders as rows are ordered."""
    return tuple([value_key(value) for value in row])


def compare_values(one, other):
    """Return -1 if the first value comes before the other one, 0 if they are equal, 1 otherwise."""
    if one == other:
        return 0
    return -1 if value_key(one) < value_key(other) else 1


def sorted_rows(rows):
    """Return a list of the rows of a list, in ascending order without duplicates."""
    return sorted(list({row: True for row in rows}), key=row_key)
