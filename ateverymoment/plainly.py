"""The plain meaning of questions: rows that are found moment by moment, without tables."""

from ateverymoment.columns import given_row, part_of, places_of
from ateverymoment.kinds import EVERY_MOMENT, FOLLOWING, LOOKING, SOME_MOMENT
from ateverymoment.momentary import linked_rows, momentary_rows, united
from ateverymoment.questions import node_columns, parts_of
from ateverymoment.values import sorted_rows
from ateverymoment.whens import when_bound, when_holds

# Kinds that look at moments that are past.
BACK = ("once", "lately", "since", "sincenot")


def horizon(cycle, facts, question):
    """Return the horizon of a valid question."""
    return node_horizon(cycle, facts, question, [horizon(cycle, facts, part) for part in parts_of(question)])


def node_horizon(cycle, facts, question, given):
    """Return the horizon of a valid question whose parts have the given horizons."""
    kind = question[0]
    if kind == "fact":
        return max([when_bound(when) for name, _, when in facts if name == question[1]], default=0)
    greatest = max(given)
    if kind == "shift":
        return max(0, greatest - question[1])
    if kind in ("since", "sincenot") or (kind in ("once", "lately") and question[1] is None):
        return greatest + cycle
    if kind in ("once", "lately"):
        return greatest + question[1]
    return greatest


def plain_rows(cycle, facts, question, moment):
    """Return the tuple of the rows that answer the valid question at the moment, in ascending order."""
    return tuple(sorted_rows(list(Node(cycle, facts, question).rows(moment))))


class Node:
    """A question with the rows that have been found: for each moment a dict whose keys are the rows."""

    def __init__(self, cycle, facts, question):
        self.cycle = cycle
        self.question = question
        self.nodes = [Node(cycle, facts, part) for part in parts_of(question)]
        self.columns = node_columns(question, [node.columns for node in self.nodes])
        self.horizon = node_horizon(cycle, facts, question, [node.horizon for node in self.nodes])
        self.told = told_rows(facts, question)
        self.found = {}

    def rows(self, moment):
        """Return the rows at the moment."""
        if moment >= self.horizon:
            moment = self.horizon + (moment - self.horizon) % self.cycle
        if moment not in self.found:
            if runs(self.question):
                run_to(self, moment)
            else:
                self.found[moment] = new_rows(self, moment)
        return self.found[moment]


def told_rows(facts, question):
    """Return a list of pairs (row, when): the rows that the facts give a "fact", and none for other kinds."""
    if question[0] != "fact":
        return []
    _, wanted, terms = question
    pairs = [(given_row(terms, row), when) for name, row, when in facts if name == wanted]
    return [(row, when) for row, when in pairs if row is not None]


def runs(question):
    """Return True if the rows at a moment are found from those at the moment before it or after it."""
    kind = question[0]
    return kind in FOLLOWING or kind == "way" or (kind in LOOKING and question[1] is None)


def new_rows(node, moment):
    """Return the rows at the moment, of a node whose rows do not depend on its rows at other moments."""
    kind = node.question[0]
    if kind == "fact":
        return {row: True for row, when in node.told if when_holds(when, moment)}
    if kind == "shift":
        there = moment + node.question[1]
        return node.nodes[0].rows(there) if there >= 0 else {}
    if kind in LOOKING:
        return rows_within(node, moment)
    return momentary_rows(node.question, [part.columns for part in node.nodes],
                          [part.rows(moment) for part in node.nodes])


def rows_within(node, moment):
    """Return the rows at the moment, of a node that looks at the moments within a bound."""
    kind, within, _ = node.question
    part = node.nodes[0]
    low, high = (max(0, moment - within), moment) if kind in BACK else (moment, moment + within)
    # From the horizon of the part on, one cycle has all that later ones have.
    high = min(high, max(low, part.horizon) + node.cycle - 1)
    given = [part.rows(there) for there in range(low, high + 1)]
    if kind in SOME_MOMENT:
        return united(given)
    return {row: True for row in given[0] if all([row in rows for rows in given])}


def run_to(node, moment):
    """Find the rows at the moment, and those at the moments on the way to it that are not yet known."""
    step = 1 if node.question[0] in BACK else -1
    # What holds two cycles behind the horizon of the parts does not matter in the cycle behind this horizon.
    edge = 0 if step == 1 else max([part.horizon for part in node.nodes]) + 2 * node.cycle - 1
    first = moment
    while first != edge and first - step not in node.found and depends(node, first):
        first -= step
    for there in range(first, moment + step, step):
        node.found[there] = run_rows(node, node.found.get(there - step, {}), there, there == edge)


def depends(node, moment):
    """Return False if the rows at the moment surely do not depend on those at the moment next to it."""
    kind, part = node.question[0], node.nodes[0]
    if kind == "way":
        return moment < part.horizon
    if kind in EVERY_MOMENT or kind in ("since", "until"):
        return len(part.rows(moment)) > 0
    return True


def run_rows(node, before, moment, at_edge):
    """Return the rows at the moment, from those at the moment next to it. At the edge there is no such moment."""
    kind, part = node.question[0], node.nodes[0]
    rows = part.rows(moment)
    if kind == "way":
        return way_rows(node, before, moment)
    if kind in SOME_MOMENT:
        return united([before, rows])
    if kind in EVERY_MOMENT:
        return {row: True for row in rows if at_edge or row in before}
    places = places_of(node.columns, part.columns)
    found = {row: True for row in node.nodes[1].rows(moment)}
    for row in before:
        if (part_of(row, places) in rows) == (kind in ("since", "until")):
            found[row] = True
    return found


def way_rows(node, before, moment):
    """Return the rows of a "way" at the moment, from those at the moment after it."""
    _, x, y, _ = node.question
    part = node.nodes[0]
    if moment >= part.horizon:
        # All steps come round for ever. So they can be taken one after the other in any order.
        return linked_rows(united([part.rows(there) for there in range(moment, moment + node.cycle)]))
    places, order = places_of(node.columns, (x, y)), places_of((x, y), node.columns)
    onward = {}
    for row in before:
        one, other = part_of(row, places)
        onward.setdefault(one, []).append(other)
    found = {row: True for row in before}
    for row in part.rows(moment):
        one, middle = part_of(row, places)
        for other in [middle] + onward.get(middle, []):
            found[part_of((one, other), order)] = True
    return found
