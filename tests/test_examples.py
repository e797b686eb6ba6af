"""The examples of the document that use the modules that are there."""

import unittest

from ateverymoment.finding import next_moment, nth_moment
from ateverymoment.passing import once, since
from ateverymoment.tables import is_shortest, shortest, span_table
from ateverymoment.whens import when_table


class Examples(unittest.TestCase):
    def test_the_example_of_the_shortest_table(self):
        table = (4, ((0, ((0, 1),)), (16, ())))
        self.assertIs(is_shortest(table), True)
        self.assertEqual(shortest((4, ((0, ((0, 1),)), (13, ())))), table)

    def test_span_table(self):
        self.assertEqual(span_table(7, 3, 5), (7, ((0, ((3, 5),)), (10, ()))))
        self.assertEqual(span_table(4, 2, None), (4, ((0, ((2, 4),)), (4, ((0, 4),)))))

    def test_finding(self):
        table = (4, ((0, ((0, 1),)), (16, ())))
        self.assertEqual((next_moment(table, 1), nth_moment(table, 3), nth_moment(table, 4)), (4, 12, None))

    def test_passing(self):
        self.assertEqual(once((4, ((0, ((0, 1),)), (16, ()))), within=1), (4, ((0, ((0, 2),)), (16, ()))))
        self.assertEqual(
            since(span_table(3, 0, 5), span_table(3, 1, 2)), (3, ((0, ((1, 3),)), (3, ((0, 2),)), (6, ()))),
        )

    def test_whens(self):
        self.assertEqual(when_table(6, ("round", 1, 2, 3, None)), (6, ((0, ((1, 3), (4, 6))),)))
