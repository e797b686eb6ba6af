import unittest

from ateverymoment.combining import all_of, any_of, both, either, just_one, opposite, without
from ateverymoment.errors import DifferentCycles
from ateverymoment.tables import always, is_shortest, is_table, never, span_table
from tests.plain import last_start, plain_shortest, row_of, some_pairs, some_table, some_tables
from random import Random

BIG = 10 ** 30
OF_TWO = (
    (both, lambda a, b: a and b), (either, lambda a, b: a or b),
    (without, lambda a, b: a and not b), (just_one, lambda a, b: a != b),
)


class OfTwo(unittest.TestCase):
    def test_against_the_plain_reading(self):
        for table, other in some_pairs(11, 300) + some_pairs(12, 6, (12, 60)):
            count = last_start(table, other) + 3 * table[0]
            rows = list(zip(row_of(table, count), row_of(other, count)))
            for operator, rule in OF_TWO:
                expected = plain_shortest(table[0], [rule(a, b) for a, b in rows])
                found = operator(table, other)
                self.assertEqual(found, expected, (operator, table, other))
                self.assertTrue(is_table(found) and is_shortest(found))

    def test_a_table_with_itself(self):
        for table in some_tables(13, 50):
            count = last_start(table) + 3 * table[0]
            same = plain_shortest(table[0], row_of(table, count))
            self.assertEqual(both(table, table), same)
            self.assertEqual(either(table, table), same)
            self.assertEqual(without(table, table), never(table[0]))
            self.assertEqual(just_one(table, table), never(table[0]))

    def test_very_large_starts(self):
        one, other = span_table(7, BIG, 3 * BIG), span_table(7, 2 * BIG, None)
        self.assertEqual(both(one, other), span_table(7, 2 * BIG, 3 * BIG))
        self.assertEqual(either(one, other), span_table(7, BIG, None))
        self.assertEqual(without(one, other), span_table(7, BIG, 2 * BIG))
        self.assertEqual(without(other, one), span_table(7, 3 * BIG, None))
        self.assertEqual(just_one(one, other), either(span_table(7, BIG, 2 * BIG), span_table(7, 3 * BIG, None)))

    def test_tables_of_different_cycles_are_not_combined(self):
        for operator, _ in OF_TWO:
            for one, other in ((7, 14), (60, 1), (3, 2)):
                with self.assertRaises(DifferentCycles):
                    operator(never(one), never(other))
                with self.assertRaises(DifferentCycles):
                    operator(always(one), span_table(other, 5, BIG))

    def test_the_tables_stay_as_they_were(self):
        one, other = (3, ((0, ()), (1, ((0, 3),)), (2, ((0, 3),)))), (3, ((0, ((1, 2),)), (BIG, ())))
        for operator, _ in OF_TWO:
            operator(one, other)
        self.assertEqual(one, (3, ((0, ()), (1, ((0, 3),)), (2, ((0, 3),)))))
        self.assertEqual(other, (3, ((0, ((1, 2),)), (BIG, ()))))


class Opposite(unittest.TestCase):
    def test_against_the_plain_reading(self):
        for table in some_tables(14, 200):
            row = row_of(table, last_start(table) + 3 * table[0])
            self.assertEqual(opposite(table), plain_shortest(table[0], [not cell for cell in row]))

    def test_no_moment_and_all_moments(self):
        for cycle in (1, 7, 60):
            self.assertEqual(opposite(never(cycle)), always(cycle))
            self.assertEqual(opposite(always(cycle)), never(cycle))

    def test_very_large_starts(self):
        self.assertEqual(opposite(span_table(60, BIG, None)), span_table(60, 0, BIG))


class OfMany(unittest.TestCase):
    def test_the_empty_list(self):
        for cycle in (1, 7, 60):
            self.assertEqual(any_of(cycle, []), never(cycle))
            self.assertEqual(all_of(cycle, []), always(cycle))

    def test_one_table_that_is_not_shortest(self):
        table = (3, ((0, ((1, 2),)), (5, ((1, 2),))))
        self.assertEqual(any_of(3, [table]), (3, ((0, ((1, 2),)),)))
        self.assertEqual(all_of(3, [table]), (3, ((0, ((1, 2),)),)))

    def test_against_the_plain_reading(self):
        chance = Random(15)
        for many in list(range(1, 8)) * 12:
            cycle = chance.choice((1, 2, 3, 5, 7))
            tables = [some_table(chance, cycle) for _ in range(many)]
            count = last_start(*tables) + 3 * cycle
            rows = list(zip(*[row_of(table, count) for table in tables]))
            self.assertEqual(any_of(cycle, tables), plain_shortest(cycle, [any(cells) for cells in rows]))
            self.assertEqual(all_of(cycle, tables), plain_shortest(cycle, [all(cells) for cells in rows]))

    def test_many_tables(self):
        spans = [span_table(7, k * BIG, k * BIG + 1) for k in range(300)]
        self.assertEqual(any_of(7, spans[::-1]), any_of(7, spans))
        self.assertEqual(any_of(7, [span_table(7, k, k + 1) for k in range(300)]), span_table(7, 0, 300))
        self.assertEqual(all_of(7, [span_table(7, k, BIG + k) for k in range(300)]), span_table(7, 299, BIG))

    def test_the_list_stays_as_it_was(self):
        tables = [never(4), (4, ((0, ()), (1, ()))), always(4)]
        any_of(4, tables)
        all_of(4, tables)
        self.assertEqual(tables, [never(4), (4, ((0, ()), (1, ()))), always(4)])
