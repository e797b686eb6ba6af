"""The examples of the document that use the modules that are there, and those of the README."""

import doctest
import unittest
from pathlib import Path

from ateverymoment.answering import answer_to
from ateverymoment.errors import BadText, Forbidden
from ateverymoment.finding import next_moment, nth_moment
from ateverymoment.passing import once, since
from ateverymoment.questions import columns_of
from ateverymoment.reading import read_question
from ateverymoment.rings import next_ring, ring_at
from ateverymoment.simplifying import simplified
from ateverymoment.store import Store
from ateverymoment.tables import is_shortest, shortest, span_table
from ateverymoment.times import Times
from ateverymoment.values import compare_values
from ateverymoment.ways import journey
from ateverymoment.whens import when_table
from ateverymoment.writing import write_question


class Examples(unittest.TestCase):
    def test_the_example_of_the_shortest_table(self):
        table = (4, ((0, ((0, 1),)), (16, ())))
        self.assertIs(is_shortest(table), True)
        self.assertEqual(shortest((4, ((0, ((0, 1),)), (13, ())))), table)

    def test_span_table(self):
        self.assertEqual(span_table(7, 3, 5), (7, ((0, ((3, 5),)), (10, ()))))
        self.assertEqual(span_table(4, 2, None), (4, ((0, ((2, 4),)), (4, ((0, 4),)))))

    def test_finding(self):
        table = (4, ((0, ((0, 1),)), (16, ())))
        self.assertEqual((next_moment(table, 1), nth_moment(table, 3), nth_moment(table, 4)), (4, 12, None))

    def test_passing(self):
        self.assertEqual(once((4, ((0, ((0, 1),)), (16, ()))), within=1), (4, ((0, ((0, 2),)), (16, ()))))
        self.assertEqual(
            since(span_table(3, 0, 5), span_table(3, 1, 2)), (3, ((0, ((1, 3),)), (3, ((0, 2),)), (6, ()))),
        )

    def test_whens(self):
        self.assertEqual(when_table(6, ("round", 1, 2, 3, None)), (6, ((0, ((1, 3), (4, 6))),)))

    def test_times(self):
        both_spans = Times.made(7, ("span", 2, 4)) | Times.made(7, ("from", 10))
        self.assertEqual((both_spans.first_moment, 5 in both_spans, 10 ** 30 in both_spans), (2, False, True))

    def test_values(self):
        self.assertEqual(compare_values(5, "a"), -1)

    def test_questions(self):
        works = ("fact", "works", (("col", "who"), ("col", "place")))
        question = ("both", works, ("fact", "open", (("col", "place"),)))
        self.assertEqual(columns_of(question), ("place", "who"))

    def test_simplifying(self):
        self.assertEqual(simplified(("shift", 2, ("shift", -2, ("fact", "open", ())))), ("fact", "open", ()))

    def test_writing(self):
        question = ("sum", "z", "y", ("x",), ("fact", "pays", (("col", "x"), ("col", "y"))))
        self.assertEqual(write_question(question), "sum(z, y, {x}, pays[x, y])")

    def test_reading(self):
        self.assertEqual(
            read_question('once( ever, open["bar"] )'), ("once", None, ("fact", "open", (("value", "bar"),))),
        )
        with self.assertRaises(BadText) as caught:
            read_question("shift(07, open[])")
        self.assertEqual(caught.exception.at, 6)

    def test_answering_and_ways(self):
        buses = [("bus", ("a", "b"), ("span", 3, 4)), ("bus", ("b", "c"), ("round", 0, 1, 4, None))]
        bus = ("fact", "bus", (("col", "x"), ("col", "y")))
        self.assertEqual(answer_to(4, buses, ("way", "x", "y", bus)), (4, ("x", "y"), (
            (("a", "b"), ((0, ((0, 4),)), (4, ()))), (("a", "c"), ((0, ((0, 4),)), (4, ()))),
            (("b", "c"), ((0, ((0, 4),)),)),
        )))
        steps = answer_to(4, buses, bus)
        self.assertEqual(journey(steps, "x", "y", "a", "c", 2), ((3, "a", "b"), (4, "b", "c")))

    def test_asking_a_store(self):
        store = Store(7)
        store.tell("open", ("bar",), ("round", 0, 5, 7, None))
        answer = store.ask(("fact", "open", (("col", "x"),)))
        self.assertEqual(answer, (7, ("x",), ((("bar",), ((0, ((0, 5),)),)),)))

    def test_guards(self):
        store = Store(7)
        guard = store.forbid(("both", ("fact", "open", ()), ("fact", "closed", ())))
        store.tell("open", (), ("span", 2, 9))
        with self.assertRaises(Forbidden) as caught:
            store.tell("closed", (), ("round", 3, 1, 7, None))
        error = caught.exception
        self.assertEqual((guard, error.guard, error.moment, error.row), (1, 1, 3, ()))

    def test_papers(self):
        store = Store(7)
        store.keep(("once", 2, ("fact", "open", ())))
        store.tell("open", (), ("span", 2, 4))
        tables = (7, ((0, ()),)), (7, ((0, ((2, 6),)), (9, ())))
        self.assertEqual(store.papers(), ((1, ((),), (2, 6), (((),) + tables,)),))

    def test_rings(self):
        store = Store(7)
        store.tell("open", (), ("round", 0, 5, 7, None))
        answer = store.ask(("fact", "open", ()))
        self.assertEqual((next_ring(answer, 5), ring_at(answer, 10)), (7, 35))

    def test_the_readme(self):
        text = (Path(__file__).resolve().parent.parent / "README.md").read_text().replace("```", "")
        examples = doctest.DocTestParser().get_doctest(text, {}, "README", "README.md", 0)
        self.assertGreater(len(examples.examples), 10)
        self.assertEqual(doctest.DocTestRunner().run(examples).failed, 0)
