import unittest

from ateverymoment.errors import DifferentCycles
from ateverymoment.finding import (
    count_before, end_of, first_difference, is_endless, last_moment, next_moment, nth_moment, turns,
)
from ateverymoment.tables import always, holds, is_shortest, never, span_table
from tests.plain import all_small_tables, last_start, plain_shortest, row_of, some_pairs, some_tables

BIG = 10 ** 30
FOUR = (4, ((0, ((0, 1),)), (16, ())))
FAR = (7, ((0, ()), (BIG, ((2, 4),)), (BIG + 50, ())))


def samples():
    return some_tables(21, 150) + some_tables(22, 5, (60,)) + list(all_small_tables(2, (1, 2, 3, 4, 5), 2))


class Moments(unittest.TestCase):
    def test_against_the_plain_reading(self):
        for table in samples():
            cycle, last = table[0], last_start(table)
            row = row_of(table, last + 6 * cycle)
            inside = [moment for moment in range(len(row)) if row[moment]]
            for moment in range(-2, last + 2 * cycle + 1, 1 if cycle < 60 else 7):
                later = [found for found in inside if found >= moment]
                self.assertEqual(next_moment(table, moment), later[0] if later else None, (table, moment))
                before = [found for found in inside if found <= moment]
                self.assertEqual(last_moment(table, moment), before[-1] if before else None, (table, moment))
                fewer = [found for found in inside if found < moment]
                self.assertEqual(count_before(table, moment), len(fewer), (table, moment))

    def test_the_nth_moment_against_the_plain_reading(self):
        for table in samples():
            row = row_of(table, last_start(table) + 4 * table[0])
            inside = [moment for moment in range(len(row)) if row[moment]]
            for n, moment in enumerate(inside):
                self.assertEqual(nth_moment(table, n), moment, (table, n))
            if not is_endless(table):
                for n in (len(inside), len(inside) + 1, BIG):
                    self.assertIsNone(nth_moment(table, n))

    def test_the_example(self):
        self.assertEqual((next_moment(FOUR, 1), nth_moment(FOUR, 3), nth_moment(FOUR, 4)), (4, 12, None))

    def test_tables_without_a_moment(self):
        for table in (never(1), never(60), (7, ((0, ()), (BIG, ()))), (7, ((0, ((3, 4),)), (2, ())))):
            for moment in (-BIG, -1, 0, 1, 5, BIG - 1, BIG, BIG + 1):
                self.assertIsNone(next_moment(table, moment))
                self.assertIsNone(last_moment(table, moment))
                self.assertEqual(count_before(table, moment), 0)
            self.assertIsNone(nth_moment(table, 0))
            self.assertIsNone(nth_moment(table, BIG))

    def test_negative_integers(self):
        for table in (FOUR, always(7), (4, ((0, ((3, 4),)),))):
            for moment in (-1, -4, -BIG):
                self.assertEqual(next_moment(table, moment), next_moment(table, 0))
                self.assertIsNone(last_moment(table, moment))
                self.assertEqual(count_before(table, moment), 0)

    def test_at_a_start_and_just_before_it(self):
        table = (4, ((0, ((3, 4),)), (5, ((1, 2),)), (13, ())))
        self.assertEqual([next_moment(table, moment) for moment in (3, 4, 5, 6, 9, 12, 13)], [3, 5, 5, 9, 9, None, None])
        self.assertEqual([last_moment(table, moment) for moment in (2, 3, 4, 5, 8, 12, 13)], [None, 3, 3, 5, 5, 9, 9])
        self.assertEqual([count_before(table, moment) for moment in (3, 4, 5, 6, 13, 14)], [0, 1, 1, 2, 3, 3])

    def test_very_large_moments(self):
        first = BIG + (2 - BIG) % 7
        self.assertEqual(next_moment(FAR, 0), first)
        self.assertEqual(next_moment(FAR, first + 1), first + 1)
        self.assertEqual(next_moment(FAR, first + 2), first + 7)
        self.assertIsNone(last_moment(FAR, first - 1))
        self.assertEqual(last_moment(FAR, 10 ** 4000), last_moment(FAR, BIG + 49))
        self.assertEqual(nth_moment(FAR, 0), first)
        self.assertEqual(count_before(FAR, 10 ** 4000), sum(holds(FAR, BIG + k) for k in range(50)))
        self.assertEqual(nth_moment(always(60), 10 ** 4000), 10 ** 4000)
        self.assertEqual(nth_moment((7, ((0, ((2, 4), (6, 7))),)), 3 * BIG + 2), 7 * BIG + 6)
        self.assertEqual(count_before((7, ((0, ((2, 4), (6, 7))),)), 7 * BIG + 3), 3 * BIG + 1)
        self.assertEqual(last_moment((7, ((0, ((2, 4),)),)), 7 * BIG + 1), 7 * BIG - 4)
        self.assertEqual(next_moment((7, ((0, ((2, 4),)),)), 7 * BIG + 4), 7 * BIG + 9)

    def test_long_lines_before_the_end(self):
        table = (3, ((0, ((1, 2),)), (3 * BIG, ()), (6 * BIG, ((0, 3),)), (9 * BIG, ())))
        self.assertEqual(nth_moment(table, BIG - 1), 3 * BIG - 2)
        self.assertEqual(nth_moment(table, BIG), 6 * BIG)
        self.assertEqual(nth_moment(table, 4 * BIG - 1), 9 * BIG - 1)
        self.assertIsNone(nth_moment(table, 4 * BIG))
        self.assertEqual(count_before(table, 10 * BIG), 4 * BIG)
        self.assertEqual(next_moment(table, 3 * BIG - 1), 6 * BIG)
        self.assertEqual(last_moment(table, 6 * BIG - 1), 3 * BIG - 2)


class Ends(unittest.TestCase):
    def test_against_the_plain_reading(self):
        for table in samples():
            last = last_start(table)
            row = row_of(table, last + 2 * table[0])
            endless = any(row[last:])
            inside = [moment for moment in range(last) if row[moment]]
            self.assertIs(is_endless(table), endless, table)
            expected = None if endless else (inside[-1] + 1 if inside else 0)
            self.assertEqual(end_of(table), expected, table)

    def test_edges(self):
        self.assertEqual(end_of(never(7)), 0)
        self.assertIsNone(end_of(always(7)))
        self.assertEqual(end_of(FOUR), 13)
        self.assertEqual(end_of(span_table(60, 3, BIG)), BIG)
        self.assertEqual(end_of((7, ((0, ((3, 4),)), (3, ()), (BIG, ())))), 0)
        self.assertIs(is_endless((60, ((0, ()), (BIG, ((59, 60),))))), True)
        self.assertIs(is_endless((60, ((0, ((0, 60),)), (BIG, ())))), False)


class Turns(unittest.TestCase):
    def test_against_the_plain_reading(self):
        for table in samples():
            row = row_of(table, last_start(table) + 5 * table[0])
            turned = [row[0]] + [row[k] != row[k - 1] for k in range(1, len(row))]
            found = turns(table)
            self.assertEqual(found, plain_shortest(table[0], turned), table)
            self.assertTrue(is_shortest(found))

    def test_edges(self):
        self.assertEqual(turns(never(7)), never(7))
        self.assertEqual(turns(always(7)), span_table(7, 0, 1))
        self.assertEqual(turns(span_table(7, 3, None)), span_table(7, 3, 4))
        self.assertEqual(turns((1, ((0, ()), (BIG, ((0, 1),))))), span_table(1, BIG, BIG + 1))


class FirstDifference(unittest.TestCase):
    def test_against_the_plain_reading(self):
        for table, other in some_pairs(23, 300):
            count = last_start(table, other) + 2 * table[0]
            one, two = row_of(table, count), row_of(other, count)
            apart = [moment for moment in range(count) if one[moment] != two[moment]]
            self.assertEqual(first_difference(table, other), apart[0] if apart else None)

    def test_equal_sets(self):
        self.assertIsNone(first_difference(FOUR, FOUR))
        self.assertIsNone(first_difference(FOUR, (4, ((0, ((0, 1),)), (13, ()), (BIG, ())))))

    def test_very_late(self):
        self.assertEqual(first_difference(always(3), span_table(3, 0, BIG)), BIG)
        self.assertEqual(first_difference(span_table(3, 0, BIG), always(3)), BIG)

    def test_different_cycles(self):
        with self.assertRaises(DifferentCycles):
            first_difference(never(2), never(4))


class Arguments(unittest.TestCase):
    def test_the_tables_stay_as_they_were(self):
        table = (4, ((0, ((0, 1),)), (3, ((0, 1),)), (16, ())))
        next_moment(table, 1)
        last_moment(table, 9)
        count_before(table, 9)
        nth_moment(table, 2)
        end_of(table)
        turns(table)
        first_difference(table, FOUR)
        self.assertEqual(table, (4, ((0, ((0, 1),)), (3, ((0, 1),)), (16, ()))))
