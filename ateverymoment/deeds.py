"""Deeds: what they do to facts, and what they change.

Facts are given by a dict of their numbers, in ascending order, and of tuples (name, row, when, table).
"""

from ateverymoment.combining import any_of
from ateverymoment.errors import NoFact, NoRow
from ateverymoment.papers import change_span
from ateverymoment.values import is_row, is_word
from ateverymoment.whens import when_table


def after_deeds(cycle, facts, last, deeds):
    """Return the facts after a list of deeds, and the tuple of the numbers that it gives, from last + 1 on."""
    found = dict(facts)
    numbers = []
    for deed in deeds:
        match deed:
            case ("tell", name, row, when):
                numbers.append(last + len(numbers) + 1)
                found[numbers[-1]] = new_fact(cycle, name, row, when)
            case ("withdraw", number):
                check_fact(found, number)
                del found[number]
            case ("correct", number, row, when):
                check_fact(found, number)
                found[number] = new_fact(cycle, found[number][0], row, when)
    return found, tuple(numbers)


def check_fact(facts, number):
    """Raise NoFact if there is no fact with this number."""
    if number not in facts:
        raise NoFact(number)


def new_fact(cycle, name, row, when):
    """Return a fact with its table."""
    if not is_word(name) or not is_row(row):
        raise NoRow("the name is not a word, or the row is not a row")
    return name, row, when, when_table(cycle, when)


def told_facts(facts):
    """Return a list of the facts (name, row, table)."""
    return [(name, row, table) for name, row, _, table in facts.values()]


def changes_between(cycle, before, after):
    """Return a list of triples (name, row, span): the changes from the facts before to the facts after."""
    met = {}
    for number in list(before) + list(after):
        facts = (before.get(number), after.get(number))
        if facts[0] != facts[1]:
            for fact in facts:
                if fact is not None:
                    met[fact[:2]] = True
    changes = []
    for name, row in met:
        span = change_span(fact_table(cycle, before, name, row), fact_table(cycle, after, name, row))
        if span is not None:
            changes.append((name, row, span))
    return changes


def fact_table(cycle, facts, name, row):
    """Return the shortest table of the moments at which the name holds with the row."""
    return any_of(cycle, [table for one, other, table in told_facts(facts) if (one, other) == (name, row)])
