import inspect
import unittest
from random import Random

from ateverymoment import passing
from ateverymoment.combining import either, opposite
from ateverymoment.errors import DifferentCycles
from ateverymoment.passing import henceforth, lately, once, shifted, since, soon, until
from ateverymoment.tables import always, holds, is_shortest, is_table, never, shortest, span_table
from tests.plain import all_small_tables, displaced, last_start, plain_holds, plain_shortest, row_of
from tests.plain import some_pairs, some_tables

BIG = 10 ** 30


def looked_at(name, moment, within, count):
    """[11]: the moments that the operator looks at; count is later than all that matters."""
    if name in ("once", "lately"):
        return range(0 if within is None else max(0, moment - within), moment + 1)
    return range(moment, count if within is None else moment + within + 1)


def plain_passing(name, table, within):
    cycle, last = table[0], last_start(table)
    count = last + (within or 0) + 4 * cycle
    row = row_of(table, count + (within or 0) + 2 * cycle)
    test = any if name in ("once", "soon") else all
    cells = [test(row[u] for u in looked_at(name, t, within, len(row))) for t in range(count)]
    return plain_shortest(cycle, cells)


def plain_since(table, other, t):
    return any(
        plain_holds(other, u) and all(plain_holds(table, v) for v in range(u + 1, t + 1)) for u in range(t, -1, -1)
    )


def plain_until(table, other, t, count):
    for u in range(t, count):
        if plain_holds(other, u):
            return True
        if not plain_holds(table, u):
            return False
    return False


class Shifted(unittest.TestCase):
    def test_against_the_plain_reading(self):
        for table in some_tables(31, 120):
            cycle, last = table[0], last_start(table)
            for n in list(range(-2 * cycle - 1, 2 * cycle + 2)) + [last, last + 1, last + cycle, -last, -last - 1]:
                count = last + abs(n) + 3 * cycle
                row = [plain_holds(table, t + n) for t in range(count)]
                found = shifted(table, n)
                self.assertEqual(found, plain_shortest(cycle, row), (table, n))
                self.assertTrue(is_table(found))

    def test_not_at_all(self):
        for table in some_tables(32, 60):
            self.assertEqual(shifted(table, 0), shortest(table))

    def test_back_and_forth(self):
        for table in some_tables(33, 60) + [never(60), always(60)]:
            for n in (1, 5, 60, BIG, 10 ** 3000):
                self.assertEqual(shifted(shifted(table, -n), n), shortest(table))

    def test_forth_and_back_loses_the_moments_below_0(self):
        self.assertEqual(shifted(shifted(always(7), 3), -3), span_table(7, 3, None))
        self.assertEqual(shifted(shifted(span_table(7, 0, 5), 3), -3), span_table(7, 3, 5))
        self.assertEqual(shifted(shifted(span_table(7, 0, 5), 5), -5), never(7))

    def test_by_more_than_all_starts(self):
        table = (4, ((0, ((0, 4),)), (BIG, ((1, 2),))))
        self.assertEqual(shifted(table, BIG + 1), (4, ((0, (((1 - BIG - 1) % 4, (1 - BIG - 1) % 4 + 1),)),)))
        self.assertEqual(shifted(span_table(4, 0, BIG), BIG), never(4))
        self.assertEqual(shifted(span_table(4, 0, BIG), BIG - 1), span_table(4, 0, 1))
        self.assertEqual(shifted(span_table(4, 2, 3), -BIG), span_table(4, BIG + 2, BIG + 3))


class Looking(unittest.TestCase):
    names = ("once", "lately", "soon", "henceforth")

    def check(self, name, table, within):
        found = getattr(passing, name)(table, within=within)
        self.assertEqual(found, plain_passing(name, table, within), (name, table, within))
        self.assertTrue(is_table(found) and is_shortest(found))

    def test_the_example(self):
        self.assertEqual(once((4, ((0, ((0, 1),)), (16, ()))), within=1), (4, ((0, ((0, 2),)), (16, ()))))

    def test_against_the_plain_reading(self):
        chance = Random(34)
        for table in some_tables(35, 150):
            cycle, last = table[0], last_start(table)
            bounds = {0, None, 1, cycle - 1, cycle, cycle + 1, last + 1, chance.randrange(3 * cycle)}
            for within in bounds:
                for name in self.names:
                    self.check(name, table, within)

    def test_all_small_tables(self):
        for table in list(all_small_tables(2, range(1, 5), 2)) + list(all_small_tables(1, range(1, 5), 3)):
            for within in (None, 0, 1, 2, 3, 6):
                for name in self.names:
                    self.check(name, table, within)

    def test_a_cycle_of_60(self):
        for table in some_tables(36, 2, (60,)):
            for within in (None, 0, 1, 7, 58, 59, 60, 100):
                for name in self.names:
                    self.check(name, table, within)

    def test_no_bound_is_the_default(self):
        for table in some_tables(37, 40):
            for name in self.names:
                operator = getattr(passing, name)
                self.assertEqual(operator(table), operator(table, within=None))

    def test_the_bound_is_passed_by_its_name(self):
        for name in self.names:
            parameter = inspect.signature(getattr(passing, name)).parameters["within"]
            self.assertEqual((parameter.kind, parameter.default), (inspect.Parameter.KEYWORD_ONLY, None))
            with self.assertRaises(TypeError):
                getattr(passing, name)(never(7), 1)

    def test_no_moment_and_all_moments(self):
        for within in (0, None, 5, BIG):
            for name in self.names:
                operator = getattr(passing, name)
                self.assertEqual(operator(never(7), within=within), never(7))
                self.assertEqual(operator(always(7), within=within), always(7))

    def test_lately_looks_at_the_moments_from_0_on(self):
        self.assertEqual(lately(span_table(5, 0, 3), within=BIG), span_table(5, 0, 3))
        self.assertEqual(lately(span_table(5, 1, 9), within=3), span_table(5, 4, 9))
        self.assertEqual(lately(span_table(5, 0, 9)), span_table(5, 0, 9))
        self.assertEqual(lately(span_table(5, 1, None)), never(5))

    def test_very_large_bounds_and_starts(self):
        table = either(span_table(7, BIG, BIG + 2), span_table(7, 3 * BIG, 3 * BIG + 1))
        self.assertEqual(once(table, within=BIG),
                         either(span_table(7, BIG, 2 * BIG + 2), span_table(7, 3 * BIG, 4 * BIG + 1)))
        self.assertEqual(once(table, within=2 * BIG), span_table(7, BIG, 5 * BIG + 1))
        self.assertEqual(once(table), span_table(7, BIG, None))
        self.assertEqual(soon(table, within=BIG), either(span_table(7, 0, BIG + 2), span_table(7, 2 * BIG, 3 * BIG + 1)))
        self.assertEqual(soon(table), span_table(7, 0, 3 * BIG + 1))
        rest = opposite(table)
        huge = 10 ** 4000
        self.assertEqual(lately(rest, within=huge),
                         either(span_table(7, 0, BIG), span_table(7, 3 * BIG + 1 + huge, None)))
        self.assertEqual(henceforth(rest, within=huge), span_table(7, 3 * BIG + 1, None))
        self.assertEqual(henceforth(rest), span_table(7, 3 * BIG + 1, None))
        self.assertEqual(once((60, ((0, ((3, 4),)),)), within=10 ** 4000), span_table(60, 3, None))

    def test_small_bounds_at_very_large_starts(self):
        by = 420 * BIG
        for table in some_tables(38, 60):
            for within in (0, 1, 2, 5, 9, None):
                late = displaced(table, by)
                self.assertEqual(shifted(soon(late, within=within), by), soon(table, within=within))
                self.assertEqual(shifted(once(late, within=within), by), once(table, within=within))


class SinceAndUntil(unittest.TestCase):
    def check(self, table, other):
        cycle, last = table[0], last_start(table, other)
        count = last + 4 * cycle
        cells = [plain_since(table, other, t) for t in range(count)]
        self.assertEqual(since(table, other), plain_shortest(cycle, cells), (table, other))
        cells = [plain_until(table, other, t, count + 2 * cycle) for t in range(count)]
        self.assertEqual(until(table, other), plain_shortest(cycle, cells), (table, other))

    def test_the_example(self):
        self.assertEqual(
            since(span_table(3, 0, 5), span_table(3, 1, 2)), (3, ((0, ((1, 3),)), (3, ((0, 2),)), (6, ()))),
        )

    def test_against_the_plain_reading(self):
        for table, other in some_pairs(41, 250, (1, 2, 3, 4, 5)) + some_pairs(42, 2, (60,)):
            self.check(table, other)

    def test_all_pairs_of_small_tables(self):
        tables = list(all_small_tables(1, range(1, 4), 3)) + list(all_small_tables(2, (1, 3), 1))
        for table in tables:
            for other in tables:
                if table[0] == other[0]:
                    self.check(table, other)

    def test_mostly_full_tables(self):
        for table, other in some_pairs(43, 150, (2, 3, 4)):
            self.check(opposite(table), other)
            self.check(either(table, opposite(other)), other)

    def test_no_moment_and_all_moments(self):
        for table in some_tables(44, 30) + [never(60), always(60)]:
            cycle = table[0]
            self.assertEqual(since(table, never(cycle)), never(cycle))
            self.assertEqual(until(table, never(cycle)), never(cycle))
            self.assertEqual(since(never(cycle), table), shortest(table))
            self.assertEqual(until(never(cycle), table), shortest(table))
            self.assertEqual(since(always(cycle), table), once(table))
            self.assertEqual(until(always(cycle), table), soon(table))

    def test_very_large_starts(self):
        table, other = span_table(7, 0, 3 * BIG), span_table(7, BIG, 2 * BIG)
        self.assertEqual(since(table, other), span_table(7, BIG, 3 * BIG))
        self.assertEqual(until(table, other), span_table(7, 0, 2 * BIG))
        self.assertTrue(holds(until((7, ((0, ((0, 6),)),)), span_table(7, 7 * BIG + 3, None)), 7 * BIG))
        by = 420 * BIG
        for one, two in some_pairs(45, 80):
            self.assertEqual(shifted(since(displaced(one, by), displaced(two, by)), by), since(one, two))
            self.assertEqual(shifted(until(displaced(one, by), displaced(two, by)), by), until(one, two))

    def test_different_cycles(self):
        for operator in (since, until):
            for one, other in ((7, 14), (60, 1), (3, 2)):
                with self.assertRaises(DifferentCycles):
                    operator(always(one), never(other))


class Arguments(unittest.TestCase):
    def test_the_tables_stay_as_they_were(self):
        one, other = (3, ((0, ()), (1, ((0, 3),)), (2, ((0, 3),)))), (3, ((0, ((1, 2),)), (BIG, ())))
        for operator in (once, lately, soon, henceforth):
            operator(one, within=2)
            operator(one)
        shifted(one, 4)
        since(one, other)
        until(one, other)
        self.assertEqual(one, (3, ((0, ()), (1, ((0, 3),)), (2, ((0, 3),)))))
        self.assertEqual(other, (3, ((0, ((1, 2),)), (BIG, ()))))

    def test_the_longest_tables(self):
        one = (60, tuple((61 * k, ((k % 60, k % 60 + 1),)) for k in range(400)))
        other = (60, tuple((67 * k, ((0, 60 - k % 7),)) for k in range(400)))
        for moment in (0, 61, 400, 5000, 24339, 24399, 26733, BIG):
            self.assertEqual(holds(once(one, within=5), moment), any(holds(one, moment - k) for k in range(6)))
            self.assertEqual(holds(soon(one, within=90), moment), any(holds(one, moment + k) for k in range(91)))
        self.assertTrue(is_shortest(since(other, one)))
        self.assertTrue(is_shortest(until(other, one)))
