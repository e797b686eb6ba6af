import unittest
from random import Random

from ateverymoment.answering import answer_to
from ateverymoment.answers import rows_at
from ateverymoment.plainly import horizon, plain_rows
from tests.asking import (
    KINDS, NONE, X, XY, Y, Asked, fact, fits, plain_nodes, some_of_kind, some_question, some_questions, some_subset,
    some_told, some_when,
)
from tests.given import row_order

BIG = 10 ** 30
XYZ = ("x", "y", "z")
EVER = ("from", 0)
FACTS = [
    ("f", (1,), ("span", 2, 5)), ("f", (1, 2), ("from", 9)), ("g", (1,), ("round", 3, 2, 7, 2)),
    ("h", (1, 2), ("round", 4, 2, 7, None)), ("open", (), ("but", ("from", 1), ("span", 20, 23))),
]


class Horizon(unittest.TestCase):
    def check(self, question, expected, facts=FACTS):
        self.assertEqual(horizon(7, facts, question), expected)

    def test_facts(self):
        # The rows of the facts do not matter.
        for question, expected in ((X, 9), (fact("f"), 9), (fact("f", 3, "x"), 9), (Y, 12), (XY, 4), (NONE, 23),
                                   (fact("none", "x"), 0), (fact("fa", "x"), 0)):
            self.check(question, expected)
        self.check(X, 0, [])
        self.check(X, 5, FACTS[:1])
        self.check(X, BIG, FACTS + [("f", (), ("from", BIG))])

    def test_each_kind(self):
        for question, expected in (
            (("shift", 2, X), 7), (("shift", 9, X), 0), (("shift", 10, X), 0), (("shift", -3, X), 12),
            (("shift", -BIG, X), BIG + 9), (("shift", BIG, X), 0), (("shift", 0, X), 9),
            (("once", 3, X), 12), (("once", 0, X), 9), (("once", None, X), 16), (("lately", BIG, X), BIG + 9),
            (("lately", None, X), 16), (("soon", 3, X), 9), (("soon", None, X), 9), (("henceforth", 100, X), 9),
            (("henceforth", None, X), 9), (("since", X, Y), 19), (("since", fact("g", "x"), X), 19),
            (("sincenot", NONE, X), 30), (("until", X, Y), 12), (("untilnot", NONE, X), 23), (("both", X, Y), 12),
            (("either", X, fact("g", "x")), 12), (("unless", X, NONE), 23), (("only", (), XY), 4),
            (("where", "same", ("col", "x"), ("value", 1), X), 9), (("count", "n", (), X), 9),
            (("sum", "n", "x", (), X), 9), (("least", "n", "x", (), X), 9), (("most", "n", "x", (), X), 9),
            (("linked", "x", "y", XY), 4), (("way", "x", "y", XY), 4),
            (("shift", 5, ("once", None, ("both", X, ("since", NONE, Y)))), 23 + 7 + 7 - 5),
        ):
            self.check(question, expected)

    def test_no_facts(self):
        for question, expected in (
            (X, 0), (("shift", -3, X), 3), (("shift", 3, X), 0), (("once", 3, X), 3), (("once", None, X), 7),
            (("lately", None, X), 7), (("lately", BIG, X), BIG), (("soon", 3, X), 0), (("henceforth", None, X), 0),
            (("since", X, Y), 7), (("sincenot", NONE, X), 7), (("until", X, Y), 0), (("way", "x", "y", XY), 0),
        ):
            self.check(question, expected, [])

    def test_against_the_plain_reading(self):
        chance = Random(351)
        for question in some_questions(chance, 400, 6):
            cycle = chance.choice((1, 2, 3, 6))
            facts = some_told(chance, cycle)
            before = repr(facts)
            self.assertEqual(horizon(cycle, facts, question), Asked(cycle, facts).horizon(question))
            self.assertEqual(repr(facts), before)


class PlainRows(unittest.TestCase):
    def check(self, cycle, facts, question):
        """Check all moments, and those many cycles later; tell whether this does not take too long."""
        asked = Asked(cycle, facts)
        end = asked.horizon(question)
        if end > 50:
            return False
        answer = answer_to(cycle, facts, question)
        for moment in range(end + 2 * cycle):
            found = plain_rows(cycle, facts, question, moment)
            self.assertIs(type(found), tuple)
            self.assertEqual(found, tuple(sorted(asked.rows(question, moment), key=row_order)), (question, moment))
            self.assertEqual(found, rows_at(answer, moment))
            if moment >= end:
                for later in (moment + cycle, moment + cycle * BIG, moment + cycle * 10 ** 4000):
                    self.assertEqual(plain_rows(cycle, facts, question, later), found)
                    self.assertEqual(rows_at(answer, later), found)
        return True

    def test_every_kind(self):
        chance = Random(352)
        for kind in KINDS:
            done = 0
            while done < 25:
                columns, cycle = some_subset(chance, XYZ), chance.choice((1, 2, 3, 4, 6))
                if kind == "fact":
                    done += self.check(cycle, some_told(chance, cycle), some_question(chance, columns, 1))
                elif fits(kind, columns):
                    question = some_of_kind(chance, kind, columns, chance.randint(2, 3))
                    done += self.check(cycle, some_told(chance, cycle), question)

    def test_chains(self):
        chance = Random(357)
        for _ in range(120):
            cycle = chance.choice((1, 2, 3, 4))
            values = (1, 2, "a", "ab", "b")[:chance.randint(2, 5)]
            facts = [("h", (chance.choice(values), chance.choice(values)), some_when(chance, cycle, 1))
                     for _ in range(chance.randint(3, 12))]
            x, y = chance.sample(("x", "y"), 2)
            for question in (("way", x, y, XY), ("linked", x, y, XY), ("way", x, y, ("shift", -2, ("way", y, x, XY)))):
                self.assertTrue(self.check(cycle, facts, question))

    def test_a_chain_of_steps_that_come_round_in_the_wrong_order(self):
        facts = [("h", (k, k + 1), ("round", 6 - k, 1, 7, None)) for k in range(6)]
        facts += [("h", (6, 7), ("span", 80, 81)), ("h", (7, 8), ("span", 79, 90)), ("h", (8, 9), ("from", 3))]
        question = ("way", "x", "y", XY)
        answer = answer_to(7, facts, question)
        self.assertEqual(plain_rows(7, facts, question, 95), rows_at(answer, 95))
        self.assertIn((0, 6), rows_at(answer, 95))
        for moment in range(0, 100, 3):
            self.assertEqual(plain_rows(7, facts, question, moment), rows_at(answer, moment))

    def test_gaps_in_what_is_followed(self):
        chance = Random(358)
        kinds = ("since", "until", "lately", "henceforth", "sincenot", "untilnot", "once", "soon")
        for _ in range(150):
            facts = [(chance.choice("fg"), (chance.choice((1, 2)),), some_when(chance, 3, 2)) for _ in range(7)]
            question = chance.choice((X, fact("g", "x")))
            for _ in range(3):
                kind = chance.choice(kinds)
                other = chance.choice((X, fact("g", "x")))
                question = (kind, None, question) if kind in kinds[2:4] + kinds[6:] else (kind, other, question)
            self.check(3, facts, question)

    def test_far_phases(self):
        for phase in range(7):
            facts = [("f", (1,), EVER), ("g", (1,), ("round", phase, 1, 7, None)), ("f", (2,), ("from", 5)),
                     ("g", (2,), ("round", phase, 6, 7, None))]
            there = fact("g", "x")
            for question in (("until", X, there), ("untilnot", fact("k", "x"), there), ("soon", None, there),
                             ("henceforth", None, there), ("henceforth", 5, there), ("since", X, there),
                             ("sincenot", fact("k", "x"), there), ("once", None, there), ("lately", None, there)):
                self.assertTrue(self.check(7, facts, question))

    def test_no_rows_before_the_first_moment(self):
        facts = [("f", (1,), EVER), ("g", (1,), EVER), ("h", (1, 1), EVER)]
        there = fact("g", "x")
        for part in (
            X, ("both", X, there), ("soon", 3, X), ("soon", None, X), ("once", 2, X), ("once", None, X), ("lately", 2, X),
            ("lately", None, X), ("henceforth", 2, X), ("henceforth", None, X), ("until", X, there), ("since", X, there),
            ("count", "n", (), X), ("way", "x", "y", XY), ("linked", "x", "y", XY), ("shift", 3, X),
        ):
            for n in (1, 2, 5):
                found = [plain_rows(7, facts, ("shift", -n, part), moment) for moment in range(n + 3)]
                self.assertEqual([rows != () for rows in found], [False] * n + [True] * 3)
                answer = answer_to(7, facts, ("shift", -n, part))
                self.assertEqual(found, [rows_at(answer, moment) for moment in range(n + 3)])

    def test_deep_questions(self):
        chance = Random(353)
        done = 0
        while done < 25:
            question = some_question(chance, some_subset(chance, XYZ), 12)
            if 20 <= plain_nodes(question) <= 60:
                cycle = chance.choice((1, 2, 3))
                done += self.check(cycle, some_told(chance, cycle, 8), question)

    def test_cycle_60(self):
        chance = Random(354)
        facts = [("f", (1,), ("round", 3, 5, 30, None)), ("g", (1,), ("span", 2, 9)), ("g", (2,), ("from", 4)),
                 ("h", (1, 2), ("round", 0, 1, 60, None))]
        for question in some_questions(chance, 12, 3):
            answer = answer_to(60, facts, question)
            for moment in range(0, 200, 13):
                self.assertEqual(plain_rows(60, facts, question, moment), rows_at(answer, moment))

    def test_the_facts_in_another_order_and_some_of_them_twice(self):
        chance = Random(355)
        for question in some_questions(chance, 100, 4):
            facts = some_told(chance, 3)
            mixed = facts + facts[:4]
            chance.shuffle(mixed)
            self.assertEqual(horizon(3, mixed, question), horizon(3, facts, question))
            for moment in (0, 1, 3, 7, 20):
                self.assertEqual(plain_rows(3, mixed, question, moment), plain_rows(3, facts, question, moment))

    def test_no_facts(self):
        for question in some_questions(Random(356), 60, 4):
            for moment in (0, 5, BIG):
                self.assertEqual(plain_rows(7, [], question, moment), ())

    def test_very_large_numbers(self):
        facts = [("f", (2,), ("span", BIG, BIG + 3)), ("f", ("a",), ("from", BIG + 1)), ("g", (2,), ("from", BIG - 4))]
        for question in (
            X, ("shift", -BIG, X), ("shift", BIG, X), ("once", 2, X), ("lately", 1, X), ("soon", 4, X),
            ("henceforth", 1, X), ("soon", None, X), ("henceforth", None, X), ("until", X, X), ("since", X, X),
            ("both", X, fact("g", "x")), ("unless", fact("g", "x"), X), ("untilnot", X, fact("g", "x")),
            ("count", "n", (), X), ("most", "x", "x", (), X),
        ):
            answer = answer_to(7, facts, question)
            for moment in [BIG + k for k in range(-3, 12)] + [2 * BIG + k for k in range(5)]:
                self.assertEqual(plain_rows(7, facts, question, moment), rows_at(answer, moment), question)
        early = [("f", (2,), ("span", 2, 4)), ("f", ("a",), ("round", 1, 2, 7, None))]
        for question in (("soon", BIG, X), ("henceforth", BIG, X), ("once", BIG, X), ("lately", BIG, X),
                         ("shift", BIG, X), ("shift", -BIG, ("once", None, X)), ("shift", 3, ("shift", -BIG, X))):
            answer = answer_to(7, early, question)
            for moment in (0, 3, 8, BIG - 1, BIG, BIG + 2, BIG + 3, BIG + 5, 3 * BIG):
                self.assertEqual(plain_rows(7, early, question, moment), rows_at(answer, moment), (question, moment))

    def test_the_facts_stay_as_they_were(self):
        facts = list(FACTS)
        found = plain_rows(7, facts, ("once", None, X), 3)
        self.assertEqual(facts, FACTS)
        facts.clear()
        self.assertEqual(found, ((1,),))
