"""Phases of a cycle, as spans and as cells."""


def spans_of(cells):
    """Return the spans, in one form, of the indexes at which True stands."""
    padded = [False] + list(cells) + [False]
    edges = [index for index in range(len(cells) + 1) if padded[index] != padded[index + 1]]
    return tuple(zip(edges[::2], edges[1::2]))


def cells_of(spans, cycle):
    """Return the list of as many cells as the cycle has phases, with True at the phases of the spans."""
    cells = [False] * cycle
    for low, high in spans:
        for phase in range(low, high):
            cells[phase] = True
    return cells


def is_spans(spans, cycle):
    """Return True if the pairs are spans for the cycle in one form, otherwise False."""
    end = -1
    for low, high in spans:
        if not end < low < high <= cycle:
            return False
        end = high
    return True
