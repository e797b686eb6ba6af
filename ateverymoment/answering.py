"""The answer to a question for a list of facts."""

from ateverymoment.answers import make_answer
from ateverymoment.columns import given_row
from ateverymoment.questions import check_question, columns_of, parts_of
from ateverymoment.relations import chosen, excepted, followed, joined, kept_columns, merged, moved
from ateverymoment.totals import counted, totaled
from ateverymoment.ways import linked, ways
from ateverymoment.whens import when_table


def answer_to(cycle, facts, question):
    """Return the answer to the question for a list of facts (name, row, when)."""
    check_question(question)
    told = [(name, row, when_table(cycle, when)) for name, row, when in facts]
    return told_answer(cycle, told, question)


def told_answer(cycle, told, question):
    """Return the answer to a valid question for a list of facts (name, row, table)."""
    return node_answer(cycle, told, question, [told_answer(cycle, told, part) for part in parts_of(question)])


def node_answer(cycle, told, question, given):
    """Return the answer to a valid question whose parts have the given answers."""
    if question[0] == "fact":
        return fact_answer(cycle, told, question)
    if len(given) == 2:
        return answer_of_two(question[0], given[0], given[1])
    return answer_of_one(question, given[0])


def fact_answer(cycle, told, question):
    """Return the answer to a "fact"."""
    _, wanted, terms = question
    pairs = [(given_row(terms, row), table) for name, row, table in told if name == wanted]
    return make_answer(cycle, columns_of(question), [(row, table) for row, table in pairs if row is not None])


def answer_of_two(kind, one, other):
    """Return the answer to a question of this kind whose parts have these two answers."""
    if kind == "both":
        return joined(one, other)
    if kind == "either":
        return merged(one, other)
    if kind == "unless":
        return excepted(one, other)
    return followed(one, other, kind)


def answer_of_one(question, given):
    """Return the answer to a question whose only part has the given answer."""
    match question:
        case ("only", columns, _):
            return kept_columns(given, columns)
        case ("where", test, left, right, _):
            return chosen(given, test, left, right)
        case ("count", new, keep, _):
            return counted(given, new, keep)
        case (kind, new, column, keep, _):
            return totaled(given, kind, new, column, keep)
        case ("linked", _, _, _):
            return linked(given)
        case ("way", x, y, _):
            return ways(given, x, y)
        case (kind, number, _):
            return moved(given, kind, number)
