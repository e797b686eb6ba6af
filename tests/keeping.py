"""Plain readings of [31] to [37]: deeds, guards, kept questions and papers. Nothing here uses the package."""

from tests.asking import FOLLOWING, Asked, is_plain_word, part_of, plain_bound, plain_columns, plain_parts, plain_when
from tests.given import plain_answer_to, row_order


def given_by(terms, row):
    """The row of values for the columns with which the terms give the row, or None."""
    worth = {item: value for (form, item), value in zip(terms, row) if form == "col"}
    fits = [worth[item] if form == "col" else item for form, item in terms] if len(terms) == len(row) else None
    return tuple(worth[column] for column in sorted(worth)) if fits == list(row) else None


def plain_valid(cycle, when, depth=12):
    """[14]"""
    if depth == 0:
        return False
    if when[0] in ("also", "but"):
        return all(plain_valid(cycle, part, depth - 1) for part in when[1:])
    if when[0] == "round":
        _, start, length, every, times = when
        return start >= 0 and 1 <= length <= every and cycle % every == 0 and (times is None or times >= 1)
    return 0 <= when[1] < when[2] if when[0] == "span" else when[1] >= 0


def plain_deeds(cycle, facts, last, deeds):
    """[31]: the dict of the facts and the numbers told, or the name of an error and its number."""
    facts, told = dict(facts), []
    for deed in deeds:
        number = last + len(told) + 1 if deed[0] == "tell" else deed[1]
        if deed[0] != "tell" and number not in facts:
            return "NoFact", number
        if deed[0] == "withdraw":
            del facts[number]
            continue
        name = deed[1] if deed[0] == "tell" else facts[number][0]
        row, when = deed[-2:]
        strings = [name] + [value for value in row if isinstance(value, str)]
        if len(row) > 8 or not all(is_plain_word(text) for text in strings):
            return "NoRow", None
        if not plain_valid(cycle, when):
            return "NoWhen", None
        facts[number] = (name, row, when)
        if deed[0] == "tell":
            told.append(number)
    return facts, tuple(told)


def plain_changes(cycle, before, after):
    """[35]: a dict of the spans of the changes, by (name, row). The facts are lists of triples."""
    end = max([plain_bound(when) for _, _, when in before + after], default=0)
    found = {}
    for pair in {fact[:2] for fact in before + after}:
        rows = [[any(plain_when(when, t) for *other, when in facts if tuple(other) == pair)
                 for t in range(end + cycle)] for facts in (before, after)]
        differing = [t for t in range(end + cycle) if rows[0][t] != rows[1][t]]
        if differing:
            found[pair] = differing[0], None if differing[-1] >= end else differing[-1] + 1
    return found


def plain_hull(spans):
    spans = [span for span in spans if span is not None]
    if not spans:
        return None
    return min(low for low, _ in spans), None if any(high is None for _, high in spans) else max(h for _, h in spans)


def plain_moved(question, span):
    """[37]"""
    if span is None:
        return None
    kind, (low, high) = question[0], span
    if kind == "shift":
        low, high = low - question[1], None if high is None else high - question[1]
    elif kind in ("once", "lately"):
        high = None if high is None or question[1] is None else high + question[1]
    elif kind in ("soon", "henceforth"):
        low = 0 if question[1] is None else low - question[1]
    elif kind in ("since", "sincenot"):
        high = None
    elif kind in ("until", "untilnot", "way"):
        low = 0
    return None if high is not None and high <= 0 else (max(low, 0), high)


def plain_span(question, changes):
    """[37], for a dict of the spans of the changes."""
    if question[0] == "fact":
        return plain_hull([span for (name, row), span in changes.items()
                           if name == question[1] and given_by(question[2], row) is not None])
    return plain_moved(question, plain_hull([plain_span(part, changes) for part in plain_parts(question)]))


def all_rows(asked, question):
    """The rows that answer the question at some moment."""
    return set().union(*[asked.rows(question, t) for t in range(asked.horizon(question) + asked.cycle)])


def plain_touched(question, before, after, changes):
    """[36]: the touched rows of a node, for the rows before and after a list of deeds."""
    kind, columns, parts = question[0], plain_columns(question), plain_parts(question)
    answering = all_rows(before, question) | all_rows(after, question)
    touched = [plain_touched(part, before, after, changes) for part in parts]
    given = [plain_columns(part) for part in parts]
    if kind == "fact":
        return answering & {given_by(question[2], row) for name, row in changes if name == question[1]}
    if kind in ("where", "shift", "once", "lately", "soon", "henceforth"):
        return answering & touched[0]
    if kind == "either":
        return answering & (touched[0] | touched[1])
    if kind == "both":
        return {row for row in answering if any(part_of(row, columns, given[k]) in touched[k] for k in (0, 1))}
    if kind == "unless":
        return {row for row in answering if row in touched[0] or part_of(row, columns, given[1]) in touched[1]}
    if kind in FOLLOWING:
        return {row for row in answering if row in touched[1] or part_of(row, columns, given[0]) in touched[0]}
    if kind == "only":
        return answering & {part_of(row, given[0], columns) for row in touched[0]}
    if kind in ("linked", "way"):
        return answering if touched[0] else set()
    groups = {part_of(row, given[0], question[-2]) for row in touched[0]}
    return {row for row in answering if part_of(row, columns, question[-2]) in groups}


def plain_paper(cycle, number, question, before, after):
    """[34]: the paper of a kept question; the facts are lists of triples."""
    changes = plain_changes(cycle, before, after)
    asked = [Asked(cycle, facts) for facts in (before, after)]
    rows = tuple(sorted(plain_touched(question, asked[0], asked[1], changes), key=row_order))
    tables = [{row: (cycle, lines) for row, lines in plain_answer_to(each, question)[2]} for each in asked]
    none = (cycle, ((0, ()),))
    changed = sorted([row for row in {**tables[0], **tables[1]} if tables[0].get(row) != tables[1].get(row)],
                     key=row_order)
    return number, rows, plain_span(question, changes), tuple(
        (row, tables[0].get(row, none), tables[1].get(row, none)) for row in changed
    )


def plain_first(cycle, facts, question):
    """[27]: the first row of the answer, or None."""
    asked = Asked(cycle, facts)
    for moment in range(asked.horizon(question) + cycle):
        rows = asked.rows(question, moment)
        if rows:
            return moment, min(rows, key=row_order)
    return None
