import unittest
from random import Random

from ateverymoment.answering import answer_to
from ateverymoment.answers import make_answer, row_table, rows_at
from ateverymoment.errors import NoQuestion
from ateverymoment.simplifying import simplified
from ateverymoment.tables import always, never, span_table
from ateverymoment.whens import when_table
from tests.asking import (
    KINDS, NONE, X, XY, Y, Asked, fact, fits, plain_columns, plain_depth, plain_nodes, plain_path, some_of_kind,
    some_question, some_questions, some_subset, some_told,
)
from tests.given import plain_answer_to, plain_form
from tests.test_simplifying import some_reducible

BIG = 10 ** 30
XYZ = ("x", "y", "z")
WORKS = [
    ("works", ("ann", "bar"), ("span", 0, 5)), ("works", ("ben", "bar"), ("round", 2, 1, 7, None)),
    ("works", ("ann", "inn"), ("from", 9)), ("works", ("ann",), ("from", 0)), ("open", ("bar",), ("span", 3, 20)),
    ("works", ("ann", "bar"), ("span", 4, 8)), ("open", (), ("from", 1)), ("works", (3, 3), ("span", 1, 2)),
]


class Answering(unittest.TestCase):
    def check(self, cycle, facts, question):
        """Check the answer against the plain reading, if this does not take too long; tell whether it was done."""
        asked = Asked(cycle, facts)
        if asked.horizon(question) > 60:
            return False
        before = repr(facts)
        found = answer_to(cycle, facts, question)
        self.assertEqual(repr(facts), before)
        self.assertEqual(found, plain_answer_to(asked, question), question)
        return True


class Plainly(Answering):
    def test_every_kind(self):
        chance = Random(341)
        for kind in KINDS:
            done = 0
            while done < 40:
                columns = some_subset(chance, XYZ)
                cycle = chance.choice((1, 2, 3, 4, 6))
                if kind == "fact":
                    done += self.check(cycle, some_told(chance, cycle), some_question(chance, columns, 1))
                elif fits(kind, columns):
                    question = some_of_kind(chance, kind, columns, chance.randint(2, 3))
                    done += self.check(cycle, some_told(chance, cycle), question)

    def test_deep_questions(self):
        chance = Random(342)
        done, deepest = 0, 0
        while done < 120:
            question = some_question(chance, some_subset(chance, XYZ), 12)
            if plain_nodes(question) <= 70:
                cycle = chance.choice((1, 2, 3))
                done += self.check(cycle, some_told(chance, cycle), question)
                deepest = max(deepest, plain_depth(question))
        self.assertEqual(deepest, 12)

    def test_cycle_60(self):
        chance = Random(343)
        for question in some_questions(chance, 8, 3):
            asked = Asked(60, [("f", (1,), ("round", 3, 5, 30, None)), ("g", (1,), ("span", 2, 9)),
                               ("h", (1, 2), ("round", 0, 1, 60, None)), ("f", (1, 2), ("from", 4))])
            if asked.horizon(question) < 100:
                found = answer_to(60, asked.facts, question)
                for moment in range(0, asked.horizon(question) + 60, 7):
                    self.assertEqual(set(rows_at(found, moment)), set(asked.rows(question, moment)))

    def test_no_facts_at_all(self):
        chance = Random(344)
        for question in some_questions(chance, 300, 6):
            self.assertEqual(answer_to(7, [], question), (7, plain_columns(question), ()))

    def test_the_form(self):
        chance = Random(345)
        for question in some_questions(chance, 200, 5):
            self.assertIsNone(plain_form(answer_to(4, some_told(chance, 4), question)))

    def test_the_simplified_question_has_the_same_answer(self):
        chance = Random(346)
        changed = 0
        for number in range(700):
            columns = some_subset(chance, XYZ)
            question = some_reducible(chance, columns, 6) if number % 2 else some_question(chance, columns, 5)
            cycle = chance.choice((1, 2, 3, 5))
            facts = some_told(chance, cycle)
            self.assertEqual(answer_to(cycle, facts, simplified(question)), answer_to(cycle, facts, question))
            changed += simplified(question) != question
        self.assertGreater(changed, 200)

    def test_equal_answers_have_the_same_rows_at_every_moment(self):
        chance = Random(347)
        facts = some_told(chance, 2, 6)
        met, asked = {}, Asked(2, facts)
        for question in some_questions(chance, 400, 3):
            found = answer_to(2, facts, question)
            rows = tuple(asked.rows(question, moment) for moment in range(60))
            if asked.horizon(question) < 50:
                self.assertEqual(met.setdefault((found[1], rows), found), found)
        self.assertEqual(len(set(map(repr, met.values()))), len(met))


class Facts(Answering):
    def answer(self, question, facts=WORKS):
        return answer_to(7, facts, question)

    def test_several_facts_of_the_same_name_and_row(self):
        self.assertEqual(row_table(self.answer(fact("works", "who", "where")), ("ann", "bar")), never(7))
        found = self.answer(fact("works", "a", "b"))
        self.assertEqual(found[1], ("a", "b"))
        self.assertEqual(row_table(found, ("ann", "bar")), span_table(7, 0, 8))
        self.assertEqual(row_table(found, ("ben", "bar")), when_table(7, ("round", 2, 1, 7, None)))

    def test_columns_are_in_alphabetical_order(self):
        self.assertEqual(rows_at(self.answer(fact("works", "who", "place")), 2), (("bar", "ann"), ("bar", "ben")))
        self.assertEqual(rows_at(self.answer(fact("works", "place", "who")), 2), (("ann", "bar"), ("ben", "bar")))

    def test_rows_of_another_length_do_not_matter(self):
        self.assertEqual(self.answer(fact("works", "x")), make_answer(7, ("x",), [(("ann",), always(7))]))
        self.assertEqual(self.answer(fact("works")), (7, (), ()))
        self.assertEqual(self.answer(fact("works", "x", "y", "z")), (7, XYZ, ()))
        self.assertEqual(self.answer(fact("open")), make_answer(7, (), [((), span_table(7, 1, None))]))

    def test_a_column_twice(self):
        self.assertEqual(self.answer(fact("works", "x", "x")), make_answer(7, ("x",), [((3,), span_table(7, 1, 2))]))
        facts = [("f", (1, "a", 1), ("from", 0)), ("f", (1, "a", 2), ("from", 0)), ("f", ("a", "a", "a"), ("from", 3))]
        self.assertEqual(self.answer(fact("f", "x", "y", "x"), facts), make_answer(7, ("x", "y"), [
            ((1, "a"), always(7)), (("a", "a"), span_table(7, 3, None)),
        ]))
        self.assertEqual(self.answer(fact("f", "x", "x", "x"), facts),
                         make_answer(7, ("x",), [(("a",), span_table(7, 3, None))]))

    def test_values_as_terms(self):
        self.assertEqual(self.answer(fact("works", "'ann", "where")), make_answer(7, ("where",), [
            (("bar",), span_table(7, 0, 8)), (("inn",), span_table(7, 9, None)),
        ]))
        self.assertEqual(self.answer(fact("works", "'ann", "'bar")), make_answer(7, (), [((), span_table(7, 0, 8))]))
        self.assertEqual(self.answer(fact("works", 3, "x")), make_answer(7, ("x",), [((3,), span_table(7, 1, 2))]))
        self.assertEqual(self.answer(fact("works", 4, "x")), (7, ("x",), ()))
        self.assertEqual(self.answer(fact("open", "'ba")), (7, (), ()))

    def test_names_that_begin_with_one_another(self):
        facts = [("open", (), ("span", 0, 2)), ("opened", (), ("span", 4, 6)), ("o", (), ("span", 8, 9))]
        self.assertEqual(self.answer(NONE, facts), make_answer(7, (), [((), span_table(7, 0, 2))]))

    def test_facts_that_hold_at_no_moment(self):
        when = ("but", ("from", 3), ("from", 2))
        self.assertEqual(self.answer(X, [("f", (1,), when), ("f", (2,), ("from", 0))]),
                         make_answer(7, ("x",), [((2,), always(7))]))

    def test_the_list_may_be_changed_between_two_calls(self):
        facts = list(WORKS)
        question = fact("open", "x")
        first = self.answer(question, facts)
        facts.clear()
        self.assertEqual(self.answer(question, facts), (7, ("x",), ()))
        self.assertEqual(first, make_answer(7, ("x",), [(("bar",), span_table(7, 3, 20))]))
        facts.append(("open", ("inn",), ("from", 0)))
        self.assertEqual(self.answer(question, facts), make_answer(7, ("x",), [(("inn",), always(7))]))

    def test_the_order_of_the_facts_does_not_matter(self):
        chance = Random(348)
        for question in some_questions(chance, 150, 4):
            facts = some_told(chance, 3)
            mixed = facts + facts[:3]
            chance.shuffle(mixed)
            self.assertEqual(answer_to(3, mixed, question), answer_to(3, facts, question))

    def test_very_large_numbers(self):
        facts = [("f", (BIG,), ("span", BIG, BIG + 3)), ("g", (BIG,), ("from", 2 * BIG)), ("h", (1, 2), ("from", BIG))]
        self.assertEqual(self.answer(("soon", BIG, X), facts), make_answer(7, ("x",), [((BIG,), span_table(7, 0, BIG + 3))]))
        self.assertEqual(self.answer(("shift", -BIG, X), facts),
                         make_answer(7, ("x",), [((BIG,), span_table(7, 2 * BIG, 2 * BIG + 3))]))
        self.assertEqual(self.answer(("both", ("once", None, X), ("shift", 3 * BIG, fact("g", "x"))), facts),
                         make_answer(7, ("x",), [((BIG,), span_table(7, BIG, None))]))
        self.assertEqual(self.answer(("sum", "n", "x", (), XY), facts),
                         make_answer(7, ("n",), [((1,), span_table(7, BIG, None))]))
        self.assertEqual(self.answer(("since", ("lately", 10 ** 4000, XY), XY), facts), self.answer(XY, facts))
        self.assertEqual(self.answer(("way", "y", "x", XY), facts), make_answer(7, ("x", "y"), [((1, 2), always(7))]))


class NotValid(Answering):
    def check_path(self, question, path):
        self.assertEqual(plain_path(question), path)
        for facts in ([], WORKS):
            with self.assertRaises(NoQuestion) as caught:
                answer_to(7, facts, question)
            self.assertEqual(caught.exception.path, path)

    def test_paths(self):
        wrong = ("only", ("y",), X)
        for question, path in (
            (("either", X, Y), ()), (("both", X, wrong), (1,)), (("both", wrong, wrong), (0,)),
            (("since", Y, ("once", -1, X)), (1,)), (("unless", ("shift", 1, wrong), Y), (0, 0)),
            (("linked", "x", "x", XY), ()), (fact("", "x"), ()), (("soon", 1, fact("f", "'X")), (0,)),
        ):
            self.check_path(question, path)

    def test_too_deep(self):
        question = ("only", ("y",), X)
        for _ in range(11):
            question = ("once", 1, question)
        self.check_path(question, ())
        self.check_path(("once", 1, question), ())
        question = X
        for _ in range(11):
            question = ("once", 1, question)
        self.assertEqual(answer_to(7, [("f", (1,), ("span", 2, 3))], question),
                         make_answer(7, ("x",), [((1,), span_table(7, 2, 14))]))
        self.check_path(("once", 1, question), ())
