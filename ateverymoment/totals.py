"""Totals: the rows of an answer in groups, and a value for each group."""

from ateverymoment.answers import answer_of, tables_of
from ateverymoment.columns import part_of, places_of
from ateverymoment.masks import phase_bit
from ateverymoment.pieces import pieces_of, table_of
from ateverymoment.questions import ordered
from ateverymoment.values import value_key


def counted(answer, new, keep):
    """Return the answer to "count"."""
    # A count is a sum in which each row counts 1.
    return grouped(answer, "sum", [1 for _ in answer[2]], new, keep)


def totaled(answer, kind, new, column, keep):
    """Return the answer to "sum", "least" or "most"."""
    place = answer[1].index(column)
    return grouped(answer, kind, [row[place] for row, _ in answer[2]], new, keep)


def grouped(answer, kind, values, new, keep):
    """Return the answer with the total of this kind of each group; the values are those of the rows, in order."""
    cycle, given, _ = answer
    places = places_of(given, keep)
    groups = {}
    for (row, table), value in zip(tables_of(answer).items(), values):
        groups.setdefault(part_of(row, places), []).append((value, table))
    columns = ordered((new,) + keep)
    order = places_of((new,) + keep, columns)
    tables = {}
    for part, members in groups.items():
        for worth, table in worth_tables(cycle, kind, members).items():
            tables[part_of((worth,) + part, order)] = table
    return answer_of(cycle, columns, tables)


def worth(kind, values):
    """Return the total of this kind of a group with at least one value."""
    if kind == "sum":
        return sum([value for value in values if not isinstance(value, str)])
    return min(values, key=value_key) if kind == "least" else max(values, key=value_key)


def worth_tables(cycle, kind, members):
    """Return a dict: for each total that the group has at some moment the table of the moments at which it has it.

    The members are pairs (value, table). A member is in the group at the moments of its table.
    """
    pieces = {}
    before = {}
    for start, masks in worth_masks(cycle, kind, members):
        for total in masks:
            pieces.setdefault(total, [(0, 0)]).append((start, masks[total]))
        for total in before:
            if total not in masks:
                pieces[total].append((start, 0))
        before = masks
    return {total: table_of(cycle, pieces[total]) for total in pieces}


def worth_masks(cycle, kind, members):
    """Return a list of pairs: a start, and a dict of the masks of the totals that the group has from there on."""
    changes = changes_of([table for _, table in members])
    values = [value for value, _ in members]
    # For each phase the members are told by the bits of an integer, so that equal sets of them are met only once.
    present = [0] * cycle
    totals = {}
    found = []
    for start in sorted(changes):
        for index, mask in changes[start].items():
            present = [changed_bit(bits, index, phase_bit(mask, phase)) for phase, bits in enumerate(present)]
        masks = {}
        for phase, bits in enumerate(present):
            if bits != 0:
                if bits not in totals:
                    totals[bits] = worth(kind, [value for index, value in enumerate(values) if phase_bit(bits, index)])
                masks[totals[bits]] = masks.get(totals[bits], 0) | (1 << phase)
        found.append((start, masks))
    return found


def changed_bit(bits, index, bit):
    """Return the integer with this bit at the index."""
    return bits & ~(1 << index) | (bit << index)


def changes_of(tables):
    """Return a dict: for each start of a line a dict of the masks that begin there, by the indexes of the tables."""
    changes = {}
    for index, table in enumerate(tables):
        for start, mask in pieces_of(table):
            changes.setdefault(start, {})[index] = mask
    return changes
