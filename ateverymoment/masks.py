"""Masks: a mask is an integer whose bit number p is 1 if p is one of its phases.

Lines may start at very large moments and last very long. So moments are found by
turning masks, never by going from one moment to the next.
"""

from ateverymoment.phases import spans_of


def full_mask(cycle):
    """Return the mask of all phases."""
    return (1 << cycle) - 1


def mask_of(spans):
    """Return the mask of the phases of the spans."""
    mask = 0
    for low, high in spans:
        mask = mask | ((1 << high) - (1 << low))
    return mask


def mask_spans(mask, cycle):
    """Return the spans, in one form, of the phases of the mask."""
    return spans_of([phase_bit(mask, phase) == 1 for phase in range(cycle)])


def phase_bit(mask, phase):
    """Return 1 if the mask has the phase, otherwise 0."""
    return (mask >> phase) & 1


def count_bits(mask):
    """Return the number of phases of the mask."""
    return f"{mask:b}".count("1")


def turned_mask(mask, cycle, moment):
    """Return the mask that has the phase p if the given mask has the phase of moment + p."""
    by = moment % cycle
    return ((mask >> by) | (mask << (cycle - by))) & full_mask(cycle)


def covered_mask(cycle, start, end):
    """Return the mask of the phases of the moments from start up to end, without end. No end is None."""
    if end is None or end - start >= cycle:
        return full_mask(cycle)
    return turned_mask((1 << (end - start)) - 1, cycle, -start)


def first_within(mask, cycle, start, end):
    """Return the least moment of the mask's phases from start up to end, or None. No end is None."""
    if mask == 0:
        return None
    turned = turned_mask(mask, cycle, start)
    found = start + (turned & -turned).bit_length() - 1
    if end is not None and found >= end:
        return None
    return found


def last_within(mask, cycle, start, end):
    """Return the greatest moment of the mask's phases from start up to end, or None."""
    if mask == 0:
        return None
    found = end - cycle + turned_mask(mask, cycle, end).bit_length() - 1
    if found < start:
        return None
    return found


def count_within(mask, cycle, start, end):
    """Return the number of moments of the mask's phases from start up to end."""
    rounds, rest = divmod(end - start, cycle)
    return rounds * count_bits(mask) + count_bits(mask & covered_mask(cycle, start, start + rest))


def nth_from(mask, cycle, start, n):
    """Return moment number n, counted from 0, of the mask's phases from start on. The mask has a phase."""
    rounds, rest = divmod(n, count_bits(mask))
    turned = turned_mask(mask, cycle, start)
    steps = [step for step in range(cycle) if phase_bit(turned, step) == 1]
    return start + rounds * cycle + steps[rest]
