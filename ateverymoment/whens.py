"""The "when" of a fact: the moments in which it holds."""

from ateverymoment.combining import either, without
from ateverymoment.errors import NoWhen
from ateverymoment.pieces import table_of
from ateverymoment.tables import span_table

GREATEST_DEPTH = 12


def is_when(cycle, when):
    """Return True if the "when" is valid for the cycle, otherwise False."""
    return is_valid(cycle, when, GREATEST_DEPTH)


def is_valid(cycle, when, depth):
    """Return True if the "when" is valid for the cycle and not deeper than the depth, otherwise False."""
    if depth == 0:
        return False
    kind = when[0]
    if kind == "span":
        return 0 <= when[1] < when[2]
    if kind == "from":
        return when[1] >= 0
    if kind == "round":
        return is_valid_round(cycle, when)
    return is_valid(cycle, when[1], depth - 1) and is_valid(cycle, when[2], depth - 1)


def is_valid_round(cycle, when):
    """Return True if the "round" is valid for the cycle, otherwise False."""
    _, start, length, every, times = when
    if start < 0 or not 1 <= length <= every or cycle % every != 0:
        return False
    return times is None or times >= 1


def when_table(cycle, when):
    """Return the shortest table of the moments of the "when"."""
    if not is_when(cycle, when):
        raise NoWhen("the when is not valid for the cycle")
    return valid_table(cycle, when)


def valid_table(cycle, when):
    """Return the shortest table of the moments of a valid "when"."""
    kind = when[0]
    if kind == "span":
        return span_table(cycle, when[1], when[2])
    if kind == "from":
        return span_table(cycle, when[1], None)
    if kind == "round":
        return round_table(cycle, when)
    if kind == "also":
        return either(valid_table(cycle, when[1]), valid_table(cycle, when[2]))
    return without(valid_table(cycle, when[1]), valid_table(cycle, when[2]))


def round_table(cycle, when):
    """Return the shortest table of the moments of a valid "round"."""
    _, start, length, every, times = when
    mask = sum([1 << phase for phase in range(cycle) if (phase - start) % every < length])
    pieces = [(0, 0), (start, mask)]
    if times is not None:
        pieces.append((start + times * every, 0))
    return table_of(cycle, pieces)


def when_holds(when, moment):
    """Return True if the integer is one of the moments of the "when", otherwise False."""
    kind = when[0]
    if kind == "span":
        return when[1] <= moment < when[2]
    if kind == "from":
        return when[1] <= moment
    if kind == "round":
        _, start, length, every, times = when
        turn, place = divmod(moment - start, every)
        return turn >= 0 and place < length and (times is None or turn < times)
    if kind == "also":
        return when_holds(when[1], moment) or when_holds(when[2], moment)
    return when_holds(when[1], moment) and not when_holds(when[2], moment)


def when_bound(when):
    """Return the bound of a valid "when"."""
    kind = when[0]
    if kind == "span":
        return when[2]
    if kind == "from":
        return when[1]
    if kind == "round":
        _, start, length, every, times = when
        return start if times is None else start + (times - 1) * every + length
    return max(when_bound(when[1]), when_bound(when[2]))
