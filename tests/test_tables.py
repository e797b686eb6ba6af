import unittest

from ateverymoment.tables import always, holds, is_shortest, is_table, never, shortest, span_table
from tests.plain import all_small_tables, last_start, plain_holds, plain_shortest, row_of, some_tables

BIG = 10 ** 30
FOUR = (4, ((0, ((0, 1),)), (16, ())))


class IsTable(unittest.TestCase):
    def test_tables(self):
        for table in (
            (1, ((0, ()),)), (1, ((0, ((0, 1),)),)), (60, ((0, ((0, 60),)),)), (60, ((0, ()), (1, ((59, 60),)))),
            FOUR, (7, ((0, ()), (BIG, ((0, 7),)), (BIG + 1, ()))), (7, ((0, ()), (1, ()), (2, ()))),
        ):
            with self.subTest(table=table):
                self.assertIs(is_table(table), True)

    def test_cycles_out_of_their_range(self):
        for cycle in (0, -1, -7, 61, BIG, -BIG):
            self.assertIs(is_table((cycle, ((0, ()),))), False)

    def test_no_lines(self):
        self.assertIs(is_table((7, ())), False)

    def test_starts(self):
        for starts in ((1,), (-1,), (BIG,), (0, 0), (0, 5, 5), (0, 5, 4), (1, 2), (-1, 0), (0, -1), (0, BIG, BIG - 1)):
            with self.subTest(starts=starts):
                self.assertIs(is_table((7, tuple((start, ()) for start in starts))), False)

    def test_spans_that_are_not_in_one_form(self):
        for spans in (((0, 1), (1, 2)), ((0, 3), (2, 4)), ((2, 2),), ((3, 1),), ((-1, 1),), ((0, 8),), ((4, 5), (0, 1))):
            with self.subTest(spans=spans):
                self.assertIs(is_table((7, ((0, spans),))), False)
                self.assertIs(is_table((7, ((0, ()), (3, spans)))), False)

    def test_spans_fit_the_cycle_of_the_table(self):
        self.assertIs(is_table((3, ((0, ((0, 3),)),))), True)
        self.assertIs(is_table((2, ((0, ((0, 3),)),))), False)


class Holds(unittest.TestCase):
    def test_moments_of_lines(self):
        table = (4, ((0, ((1, 2),)), (6, ((0, 1), (2, 4))), (9, ())))
        self.assertEqual([m for m in range(-3, 30) if holds(table, m)], [1, 5, 6, 7, 8])

    def test_it_gives_true_or_false(self):
        self.assertIs(holds(FOUR, 0), True)
        self.assertIs(holds(FOUR, 1), False)
        self.assertIs(holds(FOUR, 16), False)

    def test_a_negative_integer_is_in_no_table(self):
        for moment in (-1, -2, -4, -7, -60, -BIG):
            for cycle in (1, 4, 60):
                self.assertIs(holds((cycle, ((0, ((0, cycle),)),)), moment), False)

    def test_a_start_is_covered_by_its_own_line(self):
        table = (5, ((0, ((0, 5),)), (BIG, ()), (BIG + 3, ((0, 5),))))
        self.assertEqual([holds(table, BIG + k) for k in (-1, 0, 2, 3)], [True, False, False, True])

    def test_very_large_moments(self):
        table = (7, ((0, ((3, 5),)),))
        self.assertIs(holds(table, 7 * BIG + 3), True)
        self.assertIs(holds(table, 7 * BIG + 5), False)
        self.assertIs(holds(FOUR, 10 ** 4000), False)

    def test_against_the_plain_reading(self):
        for table in some_tables(1, 150):
            for moment in range(-3, last_start(table) + 2 * table[0]):
                self.assertEqual(holds(table, moment), plain_holds(table, moment), (table, moment))

    def test_many_lines(self):
        table = (2, tuple((3 * k, ((0, 1),) if k % 2 else ()) for k in range(400)))
        for moment in range(1210):
            self.assertEqual(holds(table, moment), plain_holds(table, moment))


class Shortest(unittest.TestCase):
    def check(self, table):
        row = row_of(table, last_start(table) + 3 * table[0])
        expected = plain_shortest(table[0], row)
        found = shortest(table)
        self.assertEqual(found, expected, table)
        self.assertTrue(is_table(found))
        self.assertIs(is_shortest(table), table == expected, table)
        self.assertIs(is_shortest(found), True)
        return tuple(row), found

    def test_the_example_of_the_document(self):
        self.assertEqual(shortest(FOUR), FOUR)
        other = (4, ((0, ((0, 1),)), (13, ((2, 3),)), (14, ()), (15, ()), (99, ())))
        self.assertEqual(shortest(other), FOUR)
        self.assertIs(is_shortest(FOUR), True)
        self.assertIs(is_shortest(other), False)

    def test_phases_that_no_moment_of_a_line_has(self):
        self.assertEqual(shortest((7, ((0, ((3, 5),)), (3, ())))), never(7))
        self.assertEqual(shortest((7, ((0, ((0, 7),)), (2, ())))), (7, ((0, ((0, 2),)), (7, ()))))
        self.assertIs(is_shortest((7, ((0, ((0, 7),)), (2, ())))), False)

    def test_lines_that_can_be_joined(self):
        self.assertEqual(shortest((3, ((0, ((1, 2),)), (5, ((1, 2),)), (9, ((1, 2),))))), (3, ((0, ((1, 2),)),)))
        self.assertEqual(shortest((2, ((0, ()), (1, ((1, 2),)), (2, ((1, 2),))))), (2, ((0, ((1, 2),)),)))

    def test_lines_that_cover_less_than_a_cycle(self):
        table = (5, ((0, ()), (1, ((1, 2),)), (2, ()), (3, ((3, 4),)), (4, ())))
        self.assertEqual(shortest(table), (5, ((0, ((1, 2), (3, 4))), (6, ()))))

    def test_a_line_may_end_in_the_middle_of_a_cycle(self):
        table = (3, ((0, ((1, 2),)), (4, ((0, 3),)), (8, ((2, 3),))))
        self.assertEqual(shortest(table), plain_shortest(3, row_of(table, 20)))

    def test_all_tables_of_a_small_kind_and_one_result_for_each_set(self):
        for cycle, starts, most in ((1, range(1, 7), 4), (2, range(1, 8), 2), (3, range(1, 8), 1)):
            by_set, by_result = {}, {}
            count = max(starts) + 4 * cycle
            for table in all_small_tables(cycle, starts, most):
                _, found = self.check(table)
                moments = tuple(row_of(table, count))
                self.assertEqual(by_set.setdefault(moments, found), found)
                self.assertEqual(by_result.setdefault(found, moments), moments)

    def test_some_larger_tables(self):
        for table in some_tables(2, 400) + some_tables(3, 12, (12, 60)):
            self.check(table)

    def test_each_line_but_the_last_covers_a_cycle(self):
        for table in some_tables(4, 300):
            lines = shortest(table)[1]
            for (start, _), (later, _) in zip(lines, lines[1:]):
                self.assertGreaterEqual(later - start, table[0])

    def test_very_large_starts(self):
        table = (60, ((0, ()), (BIG, ((0, 60),)), (BIG + 1, ()), (10 ** 4000, ((0, 1),))))
        only = BIG % 60
        self.assertEqual(
            shortest(table),
            (60, ((0, ()), (BIG, ((only, only + 1),)), (BIG + 60, ()), (10 ** 4000 + (-10 ** 4000) % 60, ((0, 1),)))),
        )

    def test_the_longest_tables(self):
        table = (60, tuple((61 * k, ((k % 60, k % 60 + 1),)) for k in range(400)))
        found = shortest(table)
        for moment in range(0, 61 * 401, 7):
            self.assertEqual(holds(found, moment), holds(table, moment))

    def test_the_table_stays_as_it_was(self):
        table = (3, ((0, ((1, 2),)), (5, ((1, 2),))))
        shortest(table)
        is_shortest(table)
        self.assertEqual(table, (3, ((0, ((1, 2),)), (5, ((1, 2),)))))


class Made(unittest.TestCase):
    def test_never_and_always(self):
        for cycle in (1, 2, 7, 60):
            self.assertEqual(never(cycle), (cycle, ((0, ()),)))
            self.assertEqual(always(cycle), (cycle, ((0, ((0, cycle),)),)))
            self.assertTrue(is_shortest(never(cycle)))
            self.assertTrue(is_shortest(always(cycle)))

    def test_the_examples_of_span_table(self):
        self.assertEqual(span_table(7, 3, 5), (7, ((0, ((3, 5),)), (10, ()))))
        self.assertEqual(span_table(4, 2, None), (4, ((0, ((2, 4),)), (4, ((0, 4),)))))

    def test_all_moments_as_a_span(self):
        for cycle in (1, 7, 60):
            self.assertEqual(span_table(cycle, 0, None), always(cycle))

    def test_all_small_spans(self):
        for cycle in range(1, 6):
            for start in range(12):
                for end in list(range(start + 1, 14)) + [None]:
                    row = [start <= m and (end is None or m < end) for m in range(30)]
                    self.assertEqual(span_table(cycle, start, end), plain_shortest(cycle, row))

    def test_very_large_spans(self):
        self.assertEqual(span_table(1, BIG, None), (1, ((0, ()), (BIG, ((0, 1),)))))
        self.assertEqual(span_table(5, BIG, 5 * BIG), (5, ((0, ()), (BIG, ((0, 5),)), (5 * BIG, ()))))
        self.assertEqual(span_table(60, 0, 10 ** 4000), (60, ((0, ((0, 60),)), (10 ** 4000, ()))))
