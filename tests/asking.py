"""Plain readings of questions, and questions to try them on. Nothing here uses the package."""

from itertools import product

WORD_LETTERS = set("abcdefghijklmnopqrstuvwxyz")
OF_TWO = ("both", "either", "unless", "since", "until", "sincenot", "untilnot")
LOOKING = ("once", "lately", "soon", "henceforth")
FOLLOWING = ("since", "until", "sincenot", "untilnot")
PICKING = ("sum", "least", "most")
KINDS = OF_TWO + LOOKING + PICKING + ("fact", "only", "where", "shift", "count", "linked", "way")


def fact(name, *terms):
    """A fact; a term is written as in a text, but a word value with a quote in front."""
    return "fact", name, tuple(term_of(term) for term in terms)


def term_of(item):
    if isinstance(item, int):
        return "value", item
    return ("value", item[1:]) if item.startswith("'") else ("col", item)


X, Y, XY, NONE = fact("f", "x"), fact("g", "y"), fact("h", "x", "y"), fact("open")


def plain_parts(question):
    """[18]: the parts stand last."""
    many = 0 if question[0] == "fact" else 2 if question[0] in OF_TWO else 1
    return question[len(question) - many:]


def with_parts(question, parts):
    return question[:len(question) - len(parts)] + tuple(parts)


def plain_depth(question):
    return 1 + max([plain_depth(part) for part in plain_parts(question)], default=0)


def plain_nodes(question):
    return 1 + sum(plain_nodes(part) for part in plain_parts(question))


def is_plain_word(text):
    return isinstance(text, str) and text != "" and set(text) <= WORD_LETTERS


def in_order(words):
    return tuple(sorted(set(words)))


def plain_columns(question):
    """[18]: the columns of a question; a set of words, in order."""
    kind, parts = question[0], plain_parts(question)
    if kind == "fact":
        return in_order(item for form, item in question[2] if form == "col")
    if kind == "both":
        return in_order(plain_columns(parts[0]) + plain_columns(parts[1]))
    if kind == "only":
        return question[1]
    if kind == "count":
        return in_order(question[2] + (question[1],))
    if kind in PICKING:
        return in_order(question[3] + (question[1],))
    return plain_columns(parts[1] if kind in FOLLOWING else parts[0])


def conditions(question):
    """[17] to [19]: the conditions of one node whose parts are valid."""
    kind = question[0]
    given = [set(plain_columns(part)) for part in plain_parts(question)]
    if kind == "fact":
        yield is_plain_word(question[1])
        yield len(question[2]) <= 8
        for form, item in question[2]:
            yield is_plain_word(item) or (form == "value" and isinstance(item, int))
    if kind == "either":
        yield given[0] == given[1]
    if kind == "unless":
        yield given[1] <= given[0]
    if kind in FOLLOWING:
        yield given[0] <= given[1]
    if kind == "where":
        yield question[1] in ("same", "other", "less")
        for form, item in question[2:4]:
            yield item in given[0] if form == "col" else isinstance(item, int) or is_plain_word(item)
    if kind in LOOKING:
        yield question[1] is None or question[1] >= 0
    if kind in ("linked", "way"):
        yield question[1] != question[2]
        yield {question[1], question[2]} == given[0]
    if kind in ("only", "count") + PICKING:
        some = question[1] if kind == "only" else question[-2]
        yield list(some) == sorted(set(some))
        yield set(some) <= given[0]
    if kind == "count" or kind in PICKING:
        yield is_plain_word(question[1])
        yield question[1] not in question[-2]
    if kind in PICKING:
        yield question[2] in given[0]
    yield len(plain_columns(question)) <= 8


def plain_path(question):
    """[20]: the path of the first node that is not right, or None if the question is valid."""
    if plain_depth(question) > 12:
        return ()
    return first_fault(question)


def first_fault(question):
    for index, part in enumerate(plain_parts(question)):
        path = first_fault(part)
        if path is not None:
            return (index,) + path
    return None if all(conditions(question)) else ()


def some_subset(chance, words):
    return tuple(word for word in words if chance.randrange(2))


def some_fact(chance, columns):
    terms = [("col", column) for column in columns]
    while len(terms) < 3 and chance.randrange(3) == 0:
        extra = [("value", 1), ("value", -2), ("value", "a")] + [("col", column) for column in columns]
        terms.append(chance.choice(extra))
    chance.shuffle(terms)
    return "fact", chance.choice(("f", "g", "h")), tuple(terms)


def some_bound(chance):
    return chance.choice((None, 0, 0, 1, 2, 3, 5))


def some_question(chance, columns, depth):
    """A valid question with these columns (at most 3 of the words x, y, z) that is at most so deep."""
    if depth == 1 or chance.randrange(8) == 0:
        return some_fact(chance, columns)
    kind = chance.choice([kind for kind in KINDS if fits(kind, columns)])
    return some_of_kind(chance, kind, columns, depth)


def fits(kind, columns):
    if kind == "count" or kind in PICKING:
        return len(columns) > 0
    return kind != "fact" and (kind not in ("linked", "way") or len(columns) == 2)


def some_of_kind(chance, kind, columns, depth):
    def inner(some):
        return some_question(chance, in_order(some), depth - 1)

    if kind == "both":
        one = some_subset(chance, columns)
        rest = tuple(column for column in columns if column not in one)
        return kind, inner(one), inner(rest + some_subset(chance, one))
    if kind == "either":
        return kind, inner(columns), inner(columns)
    if kind == "unless":
        return kind, inner(columns), inner(some_subset(chance, columns))
    if kind in FOLLOWING:
        return kind, inner(some_subset(chance, columns)), inner(columns)
    if kind == "only":
        return kind, columns, inner(columns + some_subset(chance, ("x", "y", "z")))
    if kind == "where":
        terms = [("col", column) for column in columns] + [("value", 1), ("value", "a")]
        test = chance.choice(("same", "other", "less"))
        return kind, test, chance.choice(terms), chance.choice(terms), inner(columns)
    if kind == "shift":
        return kind, chance.randint(-3, 3), inner(columns)
    if kind in LOOKING:
        return kind, some_bound(chance), inner(columns)
    if kind in ("linked", "way"):
        return (kind,) + tuple(chance.sample(columns, 2)) + (inner(columns),)
    return some_total(chance, kind, columns, inner)


def some_total(chance, kind, columns, inner):
    new = chance.choice(columns)
    keep = tuple(column for column in columns if column != new)
    given = in_order(keep + some_subset(chance, ("x", "y", "z")))
    if kind == "count":
        return kind, new, keep, inner(given)
    given = given or ("z",)
    return kind, new, chance.choice(given), keep, inner(given)


def some_questions(chance, count, depth=5):
    for _ in range(count):
        yield some_question(chance, some_subset(chance, ("x", "y", "z")), chance.randint(1, depth))


def plain_when(when, moment):
    """[14]"""
    if when[0] == "span":
        return when[1] <= moment < when[2]
    if when[0] == "from":
        return moment >= when[1]
    if when[0] == "round":
        _, start, length, every, times = when
        turns = range(times) if times is not None else range(moment + 1)
        return any(start + i * every <= moment < start + i * every + length for i in turns)
    one, other = [plain_when(part, moment) for part in when[1:]]
    return one or other if when[0] == "also" else one and not other


def plain_bound(when):
    """[29]"""
    if when[0] in ("also", "but"):
        return max(plain_bound(part) for part in when[1:])
    if when[0] == "round":
        _, start, length, every, times = when
        return start if times is None else start + (times - 1) * every + length
    return when[2] if when[0] == "span" else when[1]


def some_when(chance, cycle, depth=3):
    """A valid "when" that is steady after some moments."""
    kind = chance.choice(("span", "span", "from", "round", "round", "also", "but"))
    if kind in ("also", "but") and depth > 1:
        return kind, some_when(chance, cycle, depth - 1), some_when(chance, cycle, depth - 1)
    start = chance.randrange(7)
    if kind == "span":
        return kind, start, start + chance.randint(1, 5)
    if kind == "from":
        return kind, start
    every = chance.choice([every for every in range(1, cycle + 1) if cycle % every == 0])
    return "round", start, chance.randint(1, every), every, chance.choice((None, 1, 2, 3))


def some_told(chance, cycle, most=12):
    """Facts, some of them of the same name and row, with rows of different lengths."""
    facts = []
    for _ in range(chance.randrange(most + 1)):
        row = tuple(chance.choice((1, 2, "a", "ab")) for _ in range(chance.choice((0, 1, 1, 2, 2, 2, 3))))
        facts.append((chance.choice(("f", "g", "h")), row, some_when(chance, cycle)))
        if chance.randrange(4) == 0:
            facts.append(facts[-1][:2] + (some_when(chance, cycle),))
    chance.shuffle(facts)
    return facts


class Asked:
    """Rows of questions, found moment by moment as [18] and [29] tell."""

    def __init__(self, cycle, facts):
        self.cycle = cycle
        self.facts = facts
        self.found = {}
        self.horizons = {}

    def horizon(self, question):
        if question not in self.horizons:
            self.horizons[question] = self.new_horizon(question)
        return self.horizons[question]

    def new_horizon(self, question):
        kind = question[0]
        if kind == "fact":
            return max([plain_bound(when) for name, _, when in self.facts if name == question[1]], default=0)
        most = max(self.horizon(part) for part in plain_parts(question))
        if kind == "shift":
            return max(0, most - question[1])
        if kind in ("once", "lately"):
            return most + (self.cycle if question[1] is None else question[1])
        return most + self.cycle if kind in ("since", "sincenot") else most

    def rows(self, question, moment):
        """The rows at the moment, as a frozenset."""
        last = self.horizon(question) + self.cycle
        while moment >= last:
            moment -= self.cycle
        key = (question, moment)
        if key not in self.found:
            self.found[key] = frozenset(self.new_rows(question, moment))
        return self.found[key]

    def new_rows(self, question, t):
        kind, parts = question[0], plain_parts(question)
        if kind == "fact":
            return self.fact_rows(question, t)
        if kind == "shift":
            return self.rows(parts[0], t + question[1]) if t + question[1] >= 0 else set()
        if kind in LOOKING:
            return self.looking_rows(question, t)
        if kind in FOLLOWING:
            return self.following_rows(question, t)
        if kind == "way":
            return self.way_rows(question, t)
        return combined_rows(question, [self.rows(part, t) for part in parts])

    def fact_rows(self, question, t):
        _, name, terms = question
        for other, row, when in self.facts:
            if other == name and len(row) == len(terms) and plain_when(when, t):
                worth = dict((item, value) for (form, item), value in zip(terms, row) if form == "col")
                if all(value == (worth[item] if form == "col" else item) for (form, item), value in zip(terms, row)):
                    yield tuple(worth[column] for column in sorted(worth))

    def looking_rows(self, question, t):
        kind, within, part = question
        if kind in ("once", "lately"):
            moments = range(0 if within is None else max(0, t - within), t + 1)
        else:
            moments = range(t, (max(t, self.horizon(part)) + self.cycle if within is None else t + within) + 1)
        found = [self.rows(part, u) for u in moments]
        return set.union(*map(set, found)) if kind in ("once", "soon") else set.intersection(*map(set, found))

    def following_rows(self, question, t):
        kind, one, other = question
        end = max(t, self.horizon(question)) + 2 * self.cycle
        moments = range(t, -1, -1) if kind.startswith("since") else range(t, end)
        columns = plain_columns(other)
        some = plain_columns(one)
        left = set().union(*[self.rows(other, v) for v in moments])
        for u in moments:
            yield from left & self.rows(other, u)
            left = {row for row in left
                    if (part_of(row, columns, some) in self.rows(one, u)) != kind.endswith("not")}

    def way_rows(self, question, t):
        _, x, y, part = question
        columns = plain_columns(part)
        starts = {value for u in range(t, max(t, self.horizon(part)) + self.cycle) for row in self.rows(part, u)
                  for value in row}
        end = max(t, self.horizon(part)) + self.cycle * (len(starts) + 2)
        for start in starts:
            reached = set()
            for u in range(t, end):
                steps = [(row[columns.index(x)], row[columns.index(y)]) for row in self.rows(part, u)]
                reached |= {b for a, b in steps if a == start or a in reached}
            for goal in reached:
                yield tuple(start if column == x else goal for column in columns)


def part_of(row, columns, some):
    return tuple(row[columns.index(column)] for column in some)


def order(value):
    return (isinstance(value, str), value)


def combined_rows(question, rows):
    """[18]: the rows of a question that looks at one moment only, from the rows of its parts."""
    kind, parts = question[0], plain_parts(question)
    columns = plain_columns(question)
    given = [plain_columns(part) for part in parts]
    if kind == "both":
        worths = [(dict(zip(given[0], one)), dict(zip(given[1], two))) for one, two in product(*rows)]
        return {tuple({**one, **two}[column] for column in columns) for one, two in worths
                if all(one[column] == two[column] for column in one if column in two)}
    if kind == "either":
        return rows[0] | rows[1]
    if kind == "unless":
        return {row for row in rows[0] if part_of(row, columns, given[1]) not in rows[1]}
    if kind == "only":
        return {part_of(row, given[0], columns) for row in rows[0]}
    if kind == "where":
        return {row for row in rows[0] if compares(question, dict(zip(columns, row)))}
    if kind == "linked":
        return linked_rows(rows[0])
    return total_rows(question, rows[0], given[0])


def compares(question, worth):
    left, right = [worth[item] if form == "col" else item for form, item in question[2:4]]
    return {"same": left == right, "other": left != right, "less": order(left) < order(right)}[question[1]]


def linked_rows(rows):
    found = set(rows)
    while True:
        more = {(a, d) for a, b in found for c, d in found if b == c}
        if more <= found:
            return found
        found |= more


def total_rows(question, rows, columns):
    kind, new, keep = question[0], question[1], question[-2]
    groups = {}
    for row in rows:
        groups.setdefault(part_of(row, columns, keep), []).append(row)
    for kept, group in groups.items():
        if kind == "count":
            worth = len(group)
        else:
            values = [row[columns.index(question[2])] for row in group]
            worth = {"sum": lambda: sum(value for value in values if isinstance(value, int)),
                     "least": lambda: min(values, key=order), "most": lambda: max(values, key=order)}[kind]()
        full = {**dict(zip(keep, kept)), new: worth}
        yield tuple(full[column] for column in sorted(full))
