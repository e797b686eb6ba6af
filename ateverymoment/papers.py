"""Papers: what a list of deeds does to the answer to a question, and the span of moments in which it can."""

from ateverymoment.answers import tables_of
from ateverymoment.columns import given_row, part_of, places_of
from ateverymoment.combining import just_one
from ateverymoment.finding import end_of, next_moment
from ateverymoment.kinds import TOTALS
from ateverymoment.questions import parts_of
from ateverymoment.simplifying import joined_bound
from ateverymoment.tables import never
from ateverymoment.values import sorted_rows


def change_span(before, after):
    """Return the span of the change from one table to the other, or None if their sets are equal."""
    differing = just_one(before, after)
    low = next_moment(differing, 0)
    if low is None:
        return None
    return low, end_of(differing)


def hull(spans):
    """Return the hull of a list of spans, or None."""
    given = [span for span in spans if span is not None]
    if len(given) == 0:
        return None
    low = min([low for low, _ in given])
    highs = [high for _, high in given]
    return low, (None if None in highs else max(highs))


def moved_span(question, span):
    """Return the span, which is the hull for the parts of the question, moved by its kind, or None."""
    if span is None:
        return None
    low, high = moved_ends(question, span[0], span[1])
    if high is not None and high <= 0:
        return None
    return max(low, 0), high


def moved_ends(question, low, high):
    """Return the ends of a span moved by the kind of the question. They may be below 0."""
    kind, number = question[0], question[1]
    if kind == "shift":
        return low - number, joined_bound(high, -number)
    if kind in ("once", "lately"):
        return low, joined_bound(high, number)
    if kind in ("soon", "henceforth"):
        return 0 if number is None else low - number, high
    if kind in ("since", "sincenot"):
        return low, None
    if kind in ("until", "untilnot", "way"):
        return 0, high
    return low, high


def question_span(question, changes):
    """Return the moved span of the question for a list of changes (name, row, span), or None."""
    if question[0] == "fact":
        _, wanted, terms = question
        return hull([span for name, row, span in changes if name == wanted and given_row(terms, row) is not None])
    return moved_span(question, hull([question_span(part, changes) for part in parts_of(question)]))


def paper_of(number, question, before, after, changes):
    """Return the paper of the kept question with this number, for its trees before and after the changes."""
    rows = sorted_rows(list(touched_rows(question, before, after, changes)))
    return number, tuple(rows), question_span(question, changes), changed_rows(before[0], after[0])


def changed_rows(before, after):
    """Return the tuple of triples: a row whose tables in the two answers differ, and these tables."""
    one, other = tables_of(before), tables_of(after)
    none = never(before[0])
    triples = [(row, one.get(row, none), other.get(row, none)) for row in sorted_rows(list(one) + list(other))]
    return tuple([(row, table, new) for row, table, new in triples if table != new])


def touched_rows(question, before, after, changes):
    """Return a dict whose keys are the touched rows of the question, for its trees before and after the changes."""
    answering = list(tables_of(before[0])) + list(tables_of(after[0]))
    kind, columns = question[0], before[0][1]
    if kind == "fact":
        given = {given_row(question[2], row): True for name, row, _ in changes if name == question[1]}
        return {row: True for row in answering if row in given}
    touched = [
        touched_rows(part, one, other, changes)
        for part, one, other in zip(parts_of(question), before[1], after[1])
    ]
    if all([len(rows) == 0 for rows in touched]):
        return {}
    if kind in ("linked", "way"):
        return {row: True for row in answering}
    part_columns = [answer[1] for answer, _ in before[1]]
    if kind == "only" or kind in TOTALS:
        keep = question[-2]
        places = places_of(part_columns[0], keep)
        touched = [{part_of(row, places): True for row in touched[0]}]
        part_columns = [keep]
    places = [places_of(columns, some) for some in part_columns]
    return {row: True for row in answering if any([part_of(row, at) in rows for at, rows in zip(places, touched)])}
