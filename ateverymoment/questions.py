"""Questions: their parts, their columns, and whether they are valid."""

from ateverymoment.errors import NoQuestion
from ateverymoment.kinds import FOLLOWING, ITEMS, LOOKING, TOTALS
from ateverymoment.values import is_value, is_word

GREATEST_DEPTH = 12
MOST_TERMS = 8
MOST_COLUMNS = 8
COMPARISONS = ("same", "other", "less")


def parts_of(question):
    """Return the tuple of the parts of a question: none, P, or P and Q."""
    forms = ITEMS[question[0]]
    return tuple([item for form, item in zip(forms, question[1:]) if form == "question"])


def count_nodes(question):
    """Return the number of nodes of a question."""
    count = 0
    # A question that is not valid may be deeper than functions should call themselves.
    waiting = [question]
    while waiting:
        node = waiting.pop()
        waiting.extend(parts_of(node))
        count += 1
    return count


def columns_of(question):
    """Return the columns of a valid question."""
    return node_columns(question, [columns_of(part) for part in parts_of(question)])


def node_columns(question, given):
    """Return the columns of a question whose parts have the given columns."""
    kind = question[0]
    if kind == "fact":
        return ordered([item for form, item in question[2] if form == "col"])
    if kind == "both":
        return ordered(given[0] + given[1])
    if kind == "only":
        return question[1]
    if kind in TOTALS:
        return ordered((question[1],) + question[-2])
    return given[1] if kind in FOLLOWING else given[0]


def ordered(words):
    """Return the tuple of the words in alphabetical order without duplicates."""
    return tuple(sorted(set(words)))


def check_question(question):
    """Raise NoQuestion if the question is not valid."""
    if is_deeper(question, GREATEST_DEPTH):
        raise NoQuestion(())
    check_node(question, ())


def is_deeper(question, depth):
    """Return True if the depth of the question is greater than the given one, otherwise False."""
    if depth == 0:
        return True
    return any([is_deeper(part, depth - 1) for part in parts_of(question)])


def check_node(question, path):
    """Check the node to which the path leads, after its parts, and return its columns."""
    given = [check_node(part, path + (index,)) for index, part in enumerate(parts_of(question))]
    columns = node_columns(question, given)
    if len(columns) > MOST_COLUMNS or not is_right_node(question, given):
        raise NoQuestion(path)
    return columns


def is_right_node(question, given):
    """Return True if a node whose parts have the given columns meets the conditions of its kind, otherwise False."""
    kind = question[0]
    if kind == "fact":
        return is_right_fact(question)
    if kind == "either":
        return given[0] == given[1]
    if kind == "unless":
        return are_among(given[1], given[0])
    if kind == "only":
        return are_columns(question[1], given[0])
    if kind == "where":
        return is_right_where(question, given[0])
    if kind in LOOKING:
        return question[1] is None or question[1] >= 0
    if kind in FOLLOWING:
        return are_among(given[0], given[1])
    if kind in TOTALS:
        return is_right_total(question, given[0])
    if kind in ("linked", "way"):
        return question[1] != question[2] and ordered(question[1:3]) == given[0]
    return True


def is_right_fact(question):
    """Return True if the name and the terms of a "fact" are right, otherwise False."""
    _, name, terms = question
    return is_word(name) and len(terms) <= MOST_TERMS and all([is_value(item) for _, item in terms])


def is_right_where(question, given):
    """Return True if the test and the terms of a "where" are right for the given columns, otherwise False."""
    _, test, left, right, _ = question
    right_terms = [item in given if form == "col" else is_value(item) for form, item in (left, right)]
    return test in COMPARISONS and all(right_terms)


def is_right_total(question, given):
    """Return True if the columns that a total makes, takes and keeps are right, otherwise False."""
    new, keep = question[1], question[-2]
    if not is_word(new) or new in keep or not are_columns(keep, given):
        return False
    return question[0] == "count" or question[2] in given


def are_columns(columns, given):
    """Return True if the columns are some of the given ones, in order without duplicates, otherwise False."""
    return columns == ordered(columns) and are_among(columns, given)


def are_among(columns, given):
    """Return True if each of the columns is one of the given ones, otherwise False."""
    return all([column in given for column in columns])
