"""Plain readings of answers, and of questions whose parts have given answers. Nothing here uses the package."""

from tests.asking import Asked, order, plain_columns
from tests.plain import last_start, plain_holds, plain_shortest, some_table


def row_order(row):
    return [order(value) for value in row]


def plain_rows_at(answer, moment):
    cycle, _, entries = answer
    return tuple(row for row, lines in entries if plain_holds((cycle, lines), moment))


def end_of_all(*answers):
    """A moment from which on all is as it was a cycle before."""
    return max([last_start((answer[0], lines)) for answer in answers for _, lines in answer[2]], default=0)


def answer_from(cycle, columns, rows):
    """[25]: the answer with the rows at each of the first moments, which later go on as in the last cycle."""
    found = sorted(set().union(*rows), key=row_order)
    tables = [plain_shortest(cycle, [row in there for there in rows]) for row in found]
    return cycle, columns, tuple((row, table[1]) for row, table in zip(found, tables))


class Given(Asked):
    """Rows of questions whose facts have the given answers, by their names."""

    def __init__(self, cycle, answers):
        super().__init__(cycle, [])
        self.answers = answers

    def new_horizon(self, question):
        return end_of_all(self.answers[question[1]]) if question[0] == "fact" else super().new_horizon(question)

    def fact_rows(self, question, t):
        return plain_rows_at(self.answers[question[1]], t)


def plain_answer_to(asked, question):
    """The answer that the rows moment by moment make."""
    count = asked.horizon(question) + 3 * asked.cycle
    return answer_from(asked.cycle, plain_columns(question), [asked.rows(question, t) for t in range(count)])


def leaf(name, columns):
    return "fact", name, tuple(("col", column) for column in columns)


def of_answers(kind, items, *answers):
    """The answer to the question of this kind, with these items, whose parts have these answers."""
    leaves = [leaf(name, answer[1]) for name, answer in zip("pq", answers)]
    asked = Given(answers[0][0], dict(zip("pq", answers)))
    return plain_answer_to(asked, (kind,) + tuple(items) + tuple(leaves))


def some_answer(chance, cycle, columns, values, most=5):
    """An answer with some rows of these values; its lines start within about three cycles."""
    rows = [set() for _ in range(5 * cycle + 4)]
    for _ in range(chance.randrange(most + 1)):
        row = tuple(chance.choice(values) for _ in columns)
        table = some_table(chance, cycle, 4, cycle + 1)
        for moment, there in enumerate(rows):
            if plain_holds(table, moment):
                there.add(row)
    return answer_from(cycle, columns, rows)


def plain_form(answer):
    """[25]: what is wrong with the form of the answer, or None. Lines that start very late are not looked at."""
    cycle, columns, entries = answer
    rows = [row for row, _ in entries]
    kinds = {type(part) for part in [answer, columns, entries, *entries, *rows]}
    if kinds != {tuple}:
        return "not all are tuples"
    if rows != sorted(set(rows), key=row_order) or any(len(row) != len(columns) for row in rows):
        return "the rows"
    for _, lines in entries:
        count = last_start((cycle, lines)) + 3 * cycle
        if count > 1000:
            continue
        held = [plain_holds((cycle, lines), moment) for moment in range(count)]
        if not any(held) or plain_shortest(cycle, held) != (cycle, lines):
            return "the lines"
    return None
