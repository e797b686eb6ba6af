import unittest
from random import Random

from ateverymoment.questions import check_question, columns_of, count_nodes
from ateverymoment.simplifying import simplified
from tests.asking import (
    FOLLOWING, KINDS, LOOKING, NONE, X, XY, Y, Asked, fact, plain_parts, some_of_kind, some_question, some_questions,
    some_subset, with_parts,
)

BIG = 10 ** 30
P, Q, R, S = fact("p", "x", "y"), fact("q", "x", "y"), fact("r", "x", "y"), fact("s", "x", "y")


def added(a, b):
    return None if a is None or b is None else a + b


def pattern_rules():
    """[24] as data: the left sides, when they fit, and the right sides. What begins with "?" stands for anything."""
    yield ("shift", 0, "?p"), None, lambda of: of["?p"]
    yield (("shift", "?a", ("shift", "?b", "?p")), lambda of: of["?a"] >= 0 or of["?b"] <= 0,
           lambda of: ("shift", of["?a"] + of["?b"], of["?p"]))
    for kind in LOOKING:
        yield (kind, 0, "?p"), None, lambda of: of["?p"]
    for kind in LOOKING:
        yield ((kind, "?a", (kind, "?b", "?p")), None,
               lambda of, kind=kind: (kind, added(of["?a"], of["?b"]), of["?p"]))
    for kind in ("both", "either", "since", "until"):
        yield (kind, "?p", "?p"), None, lambda of: of["?p"]
    yield ("only", "?c", "?p"), lambda of: of["?c"] == columns_of(of["?p"]), lambda of: of["?p"]
    yield ("only", "?c", ("only", "?d", "?p")), None, lambda of: ("only", of["?c"], of["?p"])
    yield ("linked", "?x", "?y", "?p"), lambda of: of["?p"][0] == "linked", lambda of: of["?p"]
    for kind in ("both", "either", "unless"):
        yield ((kind, ("shift", "?n", "?p"), ("shift", "?n", "?q")), None,
               lambda of, kind=kind: ("shift", of["?n"], (kind, of["?p"], of["?q"])))
    for whole, kinds in (("either", ("once", "soon")), ("both", ("lately", "henceforth"))):
        for kind in kinds:
            yield ((whole, (kind, "?a", "?p"), (kind, "?a", "?q")), None,
                   lambda of, whole=whole, kind=kind: (kind, of["?a"], (whole, of["?p"], of["?q"])))
    for kind in ("since", "sincenot", "until", "untilnot"):
        yield (("either", (kind, "?p", "?q"), (kind, "?p", "?r")), None,
               lambda of, kind=kind: (kind, of["?p"], ("either", of["?q"], of["?r"])))


RULES = list(pattern_rules())


def fitted(pattern, item, of):
    """Whether the item is of the pattern; `of` gets what the parts of the pattern stand for."""
    if isinstance(pattern, str) and pattern.startswith("?"):
        return of.setdefault(pattern, item) == item
    if isinstance(pattern, tuple) and isinstance(item, tuple):
        return len(pattern) == len(item) and all([fitted(one, other, of) for one, other in zip(pattern, item)])
    return pattern == item


def plain_simplified(question):
    question = with_parts(question, [plain_simplified(part) for part in plain_parts(question)])
    for pattern, test, result in RULES:
        of = {}
        if fitted(pattern, question, of) and (test is None or test(of)):
            return plain_simplified(result(of))
    return question


def some_left_side(chance, columns, depth):
    """A question that some rule fits, or nearly fits."""
    def inner():
        return some_question(chance, columns, depth)

    number, a = chance.randrange(9), chance.randint(-2, 2)
    b = chance.choice((a, a, 0, 1, -1))
    kind = chance.choice(LOOKING)
    if number == 0:
        return "shift", a, ("shift", b, inner())
    if number == 1:
        return kind, chance.choice((0, 1, None)), (chance.choice((kind, "once")), chance.choice((0, 1, None)), inner())
    if number == 2:
        part = inner()
        return chance.choice(("both", "either", "since", "until", "sincenot")), part, part
    if number == 3:
        wide = some_question(chance, tuple(sorted(set(columns + some_subset(chance, ("x", "y", "z"))))), depth)
        return "only", columns, ("only", columns_of(wide)[-2:] if not columns else columns_of(wide), wide)
    if number == 4 and len(columns) == 2:
        x, y = chance.sample(columns, 2)
        return "linked", x, y, (chance.choice(("linked", "linked", "way")), y, x, inner())
    if number in (5, 6):
        whole = chance.choice(("both", "either", "unless", "until"))
        return whole, ("shift", a, inner()), ("shift", b, inner())
    if number == 7:
        bound = chance.choice((1, None))
        whole = chance.choice(("either", "both"))
        return whole, (kind, bound, inner()), (kind, chance.choice((bound, bound, 2)), inner())
    part = some_question(chance, some_subset(chance, columns), depth)
    kind = chance.choice(FOLLOWING)
    return chance.choice(("either", "either", "both")), (kind, part, inner()), (kind, part, inner())


def some_reducible(chance, columns, depth):
    """A valid question with left sides of rules here and there."""
    question = some_left_side(chance, columns, chance.randint(1, 2))
    while chance.randrange(3) and depth > 1:
        depth -= 1
        kind = chance.choice([kind for kind in KINDS if kind not in ("fact", "count", "sum", "least", "most", "only")
                              and (kind not in ("linked", "way") or len(columns) == 2)])
        around = some_of_kind(chance, kind, columns, 2)
        parts = list(plain_parts(around))
        parts[-1 if kind != "unless" else 0] = question
        if kind == "either":
            parts = [question, some_left_side(chance, columns, 1)]
        if kind != "both" or set(columns_of(parts[0])) <= set(columns):
            question = with_parts(around, parts)
    return question


# For each rule questions and what they become.
FITTING = {
    1: ((("shift", 0, P), P), (("shift", 0, ("shift", -1, P)), ("shift", -1, P)), (("shift", 0, NONE), NONE)),
    2: (
        (("shift", 1, ("shift", 2, P)), ("shift", 3, P)), (("shift", -1, ("shift", -2, P)), ("shift", -3, P)),
        (("shift", 3, ("shift", -1, P)), ("shift", 2, P)), (("shift", 1, ("shift", -3, P)), ("shift", -2, P)),
        (("shift", BIG, ("shift", BIG, P)), ("shift", 2 * BIG, P)), (("shift", 2, ("shift", -2, P)), P),
        (("shift", BIG, ("shift", -BIG, P)), P), (("shift", 3, ("shift", -1, ("shift", -2, P))), P),
        (("shift", 1, ("shift", 1, ("shift", 1, P))), ("shift", 3, P)),
    ),
    3: tuple(((kind, 0, P), P) for kind in LOOKING) + tuple(((kind, 0, (kind, None, P)), (kind, None, P))
                                                            for kind in LOOKING),
    4: tuple(
        ((kind, a, (kind, b, P)), (kind, both, P)) for kind in LOOKING
        for a, b, both in ((1, 2, 3), (None, 2, None), (2, None, None), (None, None, None), (BIG, BIG, 2 * BIG),
                           (1, None, None), (None, 1, None))
    ) + tuple(((kind, 1, (kind, 2, (kind, 3, P))), (kind, 6, P)) for kind in LOOKING),
    5: tuple(((kind, P, P), P) for kind in ("both", "either", "since", "until")) + tuple(
        ((kind, (one, P, Q), (one, P, Q)), (one, P, Q)) for kind in ("both", "either", "since", "until")
        for one in ("unless", "sincenot", "both")
    ),
    6: (
        (("only", ("x", "y"), P), P), (("only", (), NONE), NONE), (("only", ("x",), ("shift", 1, X)), ("shift", 1, X)),
        (("only", ("n", "x"), ("count", "n", ("x",), XY)), ("count", "n", ("x",), XY)),
        (("only", ("x",), ("only", ("x",), XY)), ("only", ("x",), XY)),
    ),
    7: (
        (("only", ("x",), ("only", ("x", "y"), fact("f", "x", "y", "z"))), ("only", ("x",), fact("f", "x", "y", "z"))),
        (("only", (), ("only", ("x",), XY)), ("only", (), XY)),
        (("only", (), ("only", ("x",), ("only", ("x", "y"), fact("f", "x", "y", "z")))),
         ("only", (), fact("f", "x", "y", "z"))),
    ),
    8: (
        (("linked", "x", "y", ("linked", "x", "y", P)), ("linked", "x", "y", P)),
        (("linked", "x", "y", ("linked", "y", "x", P)), ("linked", "y", "x", P)),
        (("linked", "y", "x", ("linked", "x", "y", ("linked", "y", "x", P))), ("linked", "y", "x", P)),
    ),
    9: tuple(((kind, ("shift", n, P), ("shift", n, Q)), ("shift", n, (kind, P, Q)))
             for kind in ("both", "either", "unless") for n in (1, -1, BIG, -BIG)) + (
        (("both", ("shift", 2, X), ("shift", 2, Y)), ("shift", 2, ("both", X, Y))),
        (("unless", ("shift", 2, XY), ("shift", 2, Y)), ("shift", 2, ("unless", XY, Y))),
        (("unless", ("shift", 2, P), ("shift", 2, P)), ("shift", 2, ("unless", P, P))),
    ),
    10: tuple((("either", (kind, a, P), (kind, a, Q)), (kind, a, ("either", P, Q)))
              for kind in ("once", "soon") for a in (1, None, BIG)),
    11: tuple((("both", (kind, a, P), (kind, a, Q)), (kind, a, ("both", P, Q)))
              for kind in ("lately", "henceforth") for a in (1, None, BIG)) + (
        (("both", ("lately", 1, X), ("lately", 1, Y)), ("lately", 1, ("both", X, Y))),
    ),
    12: tuple((("either", (kind, P, Q), (kind, P, R)), (kind, P, ("either", Q, R))) for kind in FOLLOWING) + tuple(
        (("either", (kind, X, Q), (kind, X, R)), (kind, X, ("either", Q, R))) for kind in FOLLOWING
    ),
}

# Questions that no rule fits.
NEAR_MISSES = (
    ("shift", 1, P), ("shift", -1, P), ("shift", -1, ("shift", 1, P)), ("shift", -2, ("shift", 5, P)),
    ("shift", -BIG, ("shift", 1, P)), ("shift", 1, ("once", 1, ("shift", 1, P))), ("once", None, P), ("once", 1, P),
    ("soon", 1, P), ("lately", 1, P), ("henceforth", None, P), ("once", 1, ("soon", 1, P)),
    ("soon", 2, ("once", None, P)), ("once", 1, ("lately", 1, P)), ("lately", 1, ("once", 1, P)),
    ("lately", None, ("henceforth", None, P)), ("soon", 1, ("henceforth", 1, P)), ("once", 1, ("shift", 1, P)),
    ("once", 1, ("shift", -1, ("once", 1, P))), ("both", P, Q), ("either", P, Q), ("since", P, Q), ("until", P, Q),
    ("unless", P, P), ("sincenot", P, P), ("untilnot", P, P), ("both", fact("p", "x", "y"), fact("p", "y", "x")),
    ("either", fact("p", "x", 1), fact("p", "x", 2)), ("only", ("x",), P), ("only", (), P),
    ("only", ("x",), ("shift", 1, P)), ("only", ("x",), ("shift", 1, ("only", ("x", "y"), fact("f", "x", "y", "z")))),
    ("linked", "x", "y", P), ("linked", "x", "y", ("way", "x", "y", P)), ("way", "x", "y", ("way", "x", "y", P)),
    ("way", "x", "y", ("linked", "x", "y", P)), ("linked", "x", "y", ("shift", 1, ("linked", "x", "y", P))),
    ("both", ("shift", 1, P), ("shift", 2, Q)), ("either", ("shift", 1, P), ("shift", -1, Q)),
    ("unless", ("shift", 1, P), Q), ("both", P, ("shift", 1, P)), ("since", ("shift", 1, P), ("shift", 1, Q)),
    ("until", ("shift", 1, P), ("shift", 1, Q)), ("sincenot", ("shift", 1, P), ("shift", 1, Q)),
    ("untilnot", ("shift", 1, P), ("shift", 1, Q)), ("either", ("once", 1, P), ("once", 2, Q)),
    ("either", ("once", 1, P), ("once", None, P)), ("either", ("once", 1, P), ("soon", 1, Q)),
    ("both", ("once", 1, P), ("once", 1, Q)), ("both", ("soon", None, P), ("soon", None, Q)),
    ("unless", ("once", 1, P), ("once", 1, Q)), ("either", ("lately", 1, P), ("lately", 1, Q)),
    ("either", ("henceforth", 1, P), ("henceforth", 1, Q)), ("both", ("lately", 1, P), ("lately", 2, Q)),
    ("both", ("lately", 1, P), ("henceforth", 1, Q)), ("both", ("lately", None, P), ("lately", 1, P)),
    ("unless", ("lately", 1, P), ("lately", 1, Q)), ("either", ("since", P, R), ("since", Q, R)),
    ("either", ("since", P, Q), ("sincenot", P, R)), ("either", ("since", P, Q), ("until", P, R)),
    ("either", ("until", P, Q), ("untilnot", P, R)), ("both", ("since", P, Q), ("since", P, R)),
    ("unless", ("until", P, Q), ("until", P, R)), ("either", ("since", X, Q), ("since", Y, R)),
    ("either", ("unless", P, Q), ("unless", P, R)), ("either", ("both", P, Q), ("both", P, R)),
    ("where", "same", ("col", "x"), ("col", "x"), P), ("where", "same", ("value", 0), ("value", 0), P),
    ("where", "less", ("col", "x"), ("col", "y"), ("where", "less", ("col", "x"), ("col", "y"), P)),
    ("count", "n", (), P), ("sum", "x", "x", (), X), ("least", "x", "x", (), X), ("most", "x", "x", ("y",), P), P, NONE,
    ("count", "n", ("x",), ("count", "n", ("x",), P)), ("way", "y", "x", P),
)

# Rules that fit only after another one.
CHAINS = (
    (("both", ("shift", 0, P), ("once", 0, P)), P),
    (("once", 1, ("shift", 0, ("once", 2, P))), ("once", 3, P)),
    (("once", 2, ("either", ("once", 3, P), ("once", 3, Q))), ("once", 5, ("either", P, Q))),
    (("lately", None, ("both", ("lately", 3, P), ("lately", 3, Q))), ("lately", None, ("both", P, Q))),
    (("shift", 2, ("both", ("shift", -2, P), ("shift", -2, Q))), ("both", P, Q)),
    (("shift", 1, ("unless", ("shift", 1, P), ("shift", 1, Q))), ("shift", 2, ("unless", P, Q))),
    (("either", ("shift", 1, ("once", 1, P)), ("shift", 1, ("once", 1, Q))),
     ("shift", 1, ("once", 1, ("either", P, Q)))),
    (("both", ("shift", 1, ("shift", 1, P)), ("shift", 2, P)), ("shift", 2, P)),
    (("either", ("since", P, ("shift", 1, Q)), ("since", P, ("shift", 1, R))),
     ("since", P, ("shift", 1, ("either", Q, R)))),
    (("either", ("since", P, P), ("since", P, P)), P),
    (("either", ("since", P, Q), ("since", ("shift", 0, P), Q)), ("since", P, Q)),
    (("either", ("either", ("once", 1, P), ("once", 1, Q)), ("once", 1, R)),
     ("once", 1, ("either", ("either", P, Q), R))),
    (("either", ("either", ("until", P, Q), ("until", P, R)), ("until", P, S)),
     ("until", P, ("either", ("either", Q, R), S))),
    (("only", ("x",), ("only", ("x", "y"), P)), ("only", ("x",), P)),
    (("only", ("x",), ("only", ("x",), ("shift", 0, P))), ("only", ("x",), P)),
    (("linked", "x", "y", ("shift", 0, ("linked", "y", "x", P))), ("linked", "y", "x", P)),
    (("shift", 1, ("shift", -1, ("shift", 1, P))), ("shift", 1, P)),
    (("shift", -1, ("shift", 1, ("shift", -1, P))), ("shift", -1, P)),
    (("shift", -1, ("shift", 2, ("shift", -3, P))), ("shift", -2, P)),
    (("once", 1, ("soon", 0, ("once", 1, P))), ("once", 2, P)),
    (("either", ("once", 1, ("shift", 0, P)), ("once", 1, P)), ("once", 1, P)),
    (("either", ("once", 3, P), ("once", 1, ("once", 2, Q))), ("once", 3, ("either", P, Q))),
    (("both", ("lately", None, P), ("lately", 1, ("lately", None, Q))), ("lately", None, ("both", P, Q))),
    (("unless", ("shift", 1, P), ("shift", 2, ("shift", -1, P))), ("shift", 1, ("unless", P, P))),
    (("both", ("both", P, P), ("either", P, ("since", P, P))), P),
)

# Questions around a part with the columns x and y, none of which any rule fits if the part is not a special one.
AROUND = (
    lambda part: ("unless", part, Y), lambda part: ("unless", R, part), lambda part: ("both", part, S),
    lambda part: ("either", R, part), lambda part: ("only", ("y",), part),
    lambda part: ("where", "less", ("col", "x"), ("value", 3), part), lambda part: ("sincenot", part, S),
    lambda part: ("untilnot", R, part), lambda part: ("since", part, S), lambda part: ("until", NONE, part),
    lambda part: ("count", "n", ("x",), part), lambda part: ("sum", "n", "x", (), part),
    lambda part: ("least", "x", "x", (), part), lambda part: ("most", "y", "x", ("x",), part),
    lambda part: ("way", "y", "x", part), lambda part: ("way", "x", "y", ("shift", 1, ("way", "x", "y", part))),
)


class Rules(unittest.TestCase):
    def check(self, question, expected):
        check_question(question)
        found = simplified(question)
        self.assertEqual(found, expected, question)
        self.assertEqual(simplified(found), found)

    def test_the_example(self):
        question = ("shift", 2, ("shift", -2, ("fact", "open", ())))
        self.assertEqual(simplified(question), ("fact", "open", ()))

    def test_each_rule_at_the_root(self):
        self.assertEqual(sorted(FITTING), list(range(1, 13)))
        for number, cases in FITTING.items():
            for question, expected in cases:
                with self.subTest(rule=number, question=question):
                    self.check(question, expected)

    def test_each_rule_inside_other_questions(self):
        for number, cases in FITTING.items():
            for question, expected in cases:
                if columns_of(question) == ("x", "y"):
                    for around in AROUND:
                        with self.subTest(rule=number, question=around(question)):
                            self.check(around(question), around(expected))

    def test_each_rule_far_inside(self):
        for number, cases in FITTING.items():
            for question, expected in cases:
                columns = columns_of(question)
                whole = [("count", "new", columns[:1], ("where", "same", ("value", 1), ("value", 2),
                                                      ("sincenot", NONE, part))) for part in (question, expected)]
                self.check(*whole)

    def test_near_misses(self):
        for question in NEAR_MISSES:
            with self.subTest(question=question):
                self.check(question, question)

    def test_near_misses_inside_other_questions(self):
        for question in NEAR_MISSES:
            if columns_of(question) == ("x", "y"):
                self.check(("unless", ("sincenot", Y, question), Y), ("unless", ("sincenot", Y, question), Y))

    def test_rules_that_fit_only_after_another_one(self):
        for question, expected in CHAINS:
            with self.subTest(question=question):
                self.check(question, expected)

    def test_bounds_and_shifts_that_become_0(self):
        for kind in LOOKING:
            self.check((kind, 0, (kind, 0, P)), P)
            self.check((kind, 0, (kind, 0, (kind, 0, P))), P)
            self.check((kind, 1, (kind, 0, P)), (kind, 1, P))
        self.check(("shift", -3, ("shift", 0, ("shift", 3, P))), ("shift", -3, ("shift", 3, P)))
        self.check(("shift", 3, ("shift", -3, ("shift", 3, ("shift", -3, P)))), P)
        self.check(("shift", -1, ("shift", 1, ("shift", -1, ("shift", 1, P)))), ("shift", -1, ("shift", 1, P)))

    def test_deep_questions(self):
        for step in (lambda part: ("shift", 1, part), lambda part: ("once", 1, part)):
            question = P
            for _ in range(11):
                question = step(question)
            self.check(question, step(P)[:1] + (11, P))
        question = ("linked", "x", "y", P)
        for _ in range(10):
            question = ("linked", "x", "y", question)
        self.check(question, ("linked", "x", "y", P))

    def test_many_nodes(self):
        parts = [("once", 1, fact("f", "x", number)) for number in range(64)]
        plain = [part[2] for part in parts]
        while len(parts) > 1:
            parts = [("either", one, other) for one, other in zip(parts[::2], parts[1::2])]
            plain = [("either", one, other) for one, other in zip(plain[::2], plain[1::2])]
        self.assertEqual(count_nodes(parts[0]), 191)
        self.check(parts[0], ("once", 1, plain[0]))

    def test_the_question_stays_as_it_was(self):
        question = ("both", ("shift", 1, ("shift", 0, X)), ("shift", 1, Y))
        simplified(question)
        self.assertEqual(question, ("both", ("shift", 1, ("shift", 0, fact("f", "x"))), ("shift", 1, fact("g", "y"))))


class Properties(unittest.TestCase):
    def questions(self, seed, count):
        chance = Random(seed)
        yield from some_questions(chance, count // 2, 6)
        for _ in range(count):
            yield some_reducible(chance, some_subset(chance, ("x", "y", "z")), 6)

    def test_against_the_rules_as_data(self):
        changed = 0
        for question in self.questions(101, 3000):
            check_question(question)
            found = simplified(question)
            self.assertEqual(found, plain_simplified(question), question)
            changed += found != question
        self.assertGreater(changed, 1000)

    def test_valid_with_the_same_columns_and_no_more_nodes(self):
        for question in self.questions(102, 1500):
            found = simplified(question)
            self.assertIsNone(check_question(found))
            self.assertEqual(columns_of(found), columns_of(question))
            self.assertLessEqual(count_nodes(found), count_nodes(question))
            self.assertEqual(simplified(found), found)

    def test_the_same_rows_at_every_moment(self):
        chance = Random(103)
        tried = 0
        for question in self.questions(104, 1600):
            found = simplified(question)
            if found != question:
                cycle = chance.choice((1, 2, 3))
                asked = Asked(cycle, some_facts(chance, cycle))
                end = max(asked.horizon(question), asked.horizon(found)) + 2 * cycle
                if end < 32:
                    tried += 1
                    for moment in range(end):
                        self.assertEqual(asked.rows(found, moment), asked.rows(question, moment), (question, moment))
        self.assertGreater(tried, 400)


def some_facts(chance, cycle):
    facts = []
    for _ in range(chance.randint(4, 14)):
        row = tuple(chance.choice((1, 2, "a")) for _ in range(chance.choice((0, 1, 1, 2, 2, 3))))
        start = chance.randrange(6)
        when = ("span", start, start + chance.randint(1, 4))
        if chance.randrange(2):
            when = ("round", start, 1, cycle, chance.choice((None, 2)))
        facts.append((chance.choice(("f", "g", "h")), row, when))
    return facts
