import unittest
from random import Random

from ateverymoment.combining import both, either, just_one, opposite, without
from ateverymoment.errors import DifferentCycles, NoCycle, NoTable, NoWhen
from ateverymoment.passing import shifted
from ateverymoment.tables import always, holds, is_shortest, never, shortest, span_table
from ateverymoment.times import Times
from ateverymoment.whens import when_table
from tests.plain import last_start, plain_holds, plain_shortest, row_of, some_pairs, some_tables

BIG = 10 ** 30
OF_TWO = (
    (lambda a, b: a & b, both, lambda a, b: a and b),
    (lambda a, b: a | b, either, lambda a, b: a or b),
    (lambda a, b: a - b, without, lambda a, b: a and not b),
    (lambda a, b: a ^ b, just_one, lambda a, b: a != b),
)
NO_TABLES = {
    "cycle 0": (0, ((0, ()),)),
    "cycle -1": (-1, ((0, ()),)),
    "cycle 61": (61, ((0, ()),)),
    "a large cycle": (BIG, ((0, ()),)),
    "no line": (7, ()),
    "the first line starts at 1": (7, ((1, ()),)),
    "the first line starts at -1": (7, ((-1, ()),)),
    "two lines with one start": (7, ((0, ()), (3, ((0, 1),)), (3, ()))),
    "two lines at 0": (7, ((0, ()), (0, ((0, 1),)))),
    "a line that starts before the one before it": (7, ((0, ()), (9, ((0, 1),)), (8, ()))),
    "a span behind the cycle": (7, ((0, ((6, 8),)),)),
    "a span that begins at the cycle": (7, ((0, ((7, 8),)),)),
    "a span below 0": (7, ((0, ((-1, 2),)),)),
    "an empty span": (7, ((0, ((2, 2),)),)),
    "a span that ends before it begins": (7, ((0, ((3, 2),)),)),
    "spans without a gap": (7, ((0, ((1, 2), (2, 3))),)),
    "spans that meet": (7, ((0, ((1, 4), (3, 5))),)),
    "spans in another order": (7, ((0, ((4, 5), (1, 2))),)),
    "one span twice": (7, ((0, ((1, 2), (1, 2))),)),
    "a wrong span in a later line": (7, ((0, ()), (5, ((0, 8),)))),
}
NO_WHENS = (
    ("span", 1, 1), ("span", -1, 1), ("from", -1), ("round", -1, 1, 1, None), ("round", 0, 0, 1, None),
    ("round", 0, 2, 1, None), ("round", 0, 1, 120, None), ("round", 0, 1, 1, 0),
    ("also", ("from", 0), ("from", -1)), ("but", ("span", 3, 2), ("from", 0)),
)


def deep_when(kind, depth):
    when = ("from", 3)
    for _ in range(depth - 1):
        when = (kind, when, ("span", 1, 2))
    return when


class Made(unittest.TestCase):
    def test_the_example(self):
        both_spans = Times.made(7, ("span", 2, 4)) | Times.made(7, ("from", 10))
        self.assertEqual((both_spans.first_moment, 5 in both_spans, 10 ** 30 in both_spans), (2, False, True))

    def test_each_pair_that_is_no_table(self):
        for name, table in NO_TABLES.items():
            with self.subTest(name):
                with self.assertRaises(NoTable):
                    Times(table)

    def test_each_table_and_its_shortest_table(self):
        for table in some_tables(61, 200) + [never(1), always(60), (60, ((0, ((0, 60),)), (BIG, ())))]:
            found = Times(table).as_table
            self.assertEqual(found, plain_shortest(table[0], row_of(table, 400)) if table[0] < 9 else shortest(table))
            self.assertTrue(is_shortest(found))

    def test_whens(self):
        for cycle, when in (
            (1, ("from", 0)), (60, ("span", 0, BIG)), (6, ("round", 1, 2, 3, None)), (12, ("round", 5, 3, 4, 2)),
            (7, ("also", ("span", 2, 4), ("from", 10))), (7, ("but", ("from", 2), ("round", 3, 1, 7, None))),
            (7, ("but", ("from", 2), ("from", 2))),
        ):
            found = Times.made(cycle, when)
            self.assertIsInstance(found, Times)
            self.assertEqual(found.as_table, when_table(cycle, when))

    def test_cycles_from_1_to_60(self):
        for cycle in (1, 2, 59, 60):
            self.assertEqual(Times.made(cycle, ("from", 0)).as_table, always(cycle))
            self.assertEqual(Times(never(cycle)).as_table, never(cycle))

    def test_other_cycles_come_before_the_when(self):
        for cycle in (0, -1, -60, 61, 120, BIG, -BIG):
            for when in (("from", 0), ("round", 0, 1, 1, None), deep_when("also", 13)) + NO_WHENS:
                with self.subTest(cycle=cycle, when=when):
                    with self.assertRaises(NoCycle):
                        Times.made(cycle, when)

    def test_whens_that_are_not_valid(self):
        for cycle in (1, 2, 60):
            for when in NO_WHENS:
                with self.subTest(cycle=cycle, when=when):
                    with self.assertRaises(NoWhen):
                        Times.made(cycle, when)

    def test_the_depth_of_a_when(self):
        for kind in ("also", "but"):
            self.assertEqual(Times.made(5, deep_when(kind, 12)).first_moment, 1 if kind == "also" else 3)
            with self.assertRaises(NoWhen):
                Times.made(5, deep_when(kind, 13))

    def test_made_is_called_off_an_object_too(self):
        self.assertEqual(Times(never(3)).made(7, ("from", 0)).as_table, always(7))


class Asked(unittest.TestCase):
    def test_moments_against_the_plain_reading(self):
        for table in some_tables(62, 120):
            times = Times(table)
            for moment in range(-9, last_start(table) + 2 * table[0]):
                self.assertIs(moment in times, plain_holds(table, moment))
                self.assertIs(moment not in times, not plain_holds(table, moment))

    def test_negative_integers_are_in_no_set(self):
        for table in (never(7), always(7), always(1), (7, ((0, ((6, 7),)),))):
            for moment in (-1, -2, -7, -BIG):
                self.assertIs(moment in Times(table), False)
                self.assertIs(moment in ~Times(table), False)

    def test_very_large_moments(self):
        times = Times((7, ((0, ()), (BIG, ((2, 4),)))))
        self.assertEqual([BIG + k in times for k in range(-1, 7)],
                         [k >= 0 and (BIG + k) % 7 in (2, 3) for k in range(-1, 7)])
        self.assertIs(7 * 10 ** 4000 + 2 in times, True)
        self.assertIs(7 * 10 ** 4000 + 4 in times, False)

    def test_the_first_moment_against_the_plain_reading(self):
        for table in some_tables(63, 200):
            row = row_of(table, last_start(table) + 2 * table[0])
            self.assertEqual(Times(table).first_moment, row.index(True) if True in row else None)
            self.assertIs(bool(Times(table)), True in row)

    def test_an_empty_set(self):
        for table in (never(1), never(60), (7, ((0, ((3, 5),)), (3, ()))), (7, ((0, ()), (BIG, ())))):
            times = Times(table)
            self.assertIsNone(times.first_moment)
            self.assertIs(bool(times), False)
            self.assertEqual(times.as_table, never(table[0]))

    def test_a_set_with_the_moment_0_only_is_not_empty(self):
        times = Times(span_table(7, 0, 1))
        self.assertEqual(times.first_moment, 0)
        self.assertIs(bool(times), True)

    def test_a_very_late_first_moment(self):
        times = Times.made(60, ("from", 10 ** 4000))
        self.assertEqual(times.first_moment, 10 ** 4000)
        self.assertIs(bool(times), True)


class Operators(unittest.TestCase):
    def check(self, found, expected):
        self.assertIsInstance(found, Times)
        self.assertEqual(found.as_table, expected)

    def test_of_two_against_the_functions_and_the_plain_reading(self):
        for table, other in some_pairs(64, 150):
            one, two = Times(table), Times(other)
            rows = list(zip(row_of(table, 80), row_of(other, 80)))
            for sign, function, rule in OF_TWO:
                found = sign(one, two)
                self.check(found, function(table, other))
                self.check(found, plain_shortest(table[0], [rule(a, b) for a, b in rows]))
                self.assertEqual((one.as_table, two.as_table), (shortest(table), shortest(other)))

    def test_the_opposite_against_the_function_and_the_plain_reading(self):
        for table in some_tables(65, 150):
            times = Times(table)
            self.check(~times, opposite(table))
            self.check(~times, plain_shortest(table[0], [not cell for cell in row_of(table, 80)]))
            self.check(~~times, shortest(table))
            self.assertEqual(times.as_table, shortest(table))

    def test_the_same_object_on_both_sides(self):
        for table in some_tables(66, 50) + [never(60), always(1)]:
            times = Times(table)
            self.check(times & times, shortest(table))
            self.check(times | times, shortest(table))
            self.check(times - times, never(table[0]))
            self.check(times ^ times, never(table[0]))
            self.assertEqual(times.as_table, shortest(table))

    def test_the_result_is_another_object(self):
        times = Times(always(7))
        for found in (times & times, times | times, ~~times, times << 0, times >> 0):
            self.assertIsNot(found, times)

    def test_an_assignment_with_an_operator_leaves_the_old_object(self):
        times = old = Times(span_table(7, 2, 5))
        times |= Times(span_table(7, 5, 9))
        times -= Times(span_table(7, 3, 4))
        times <<= 1
        self.assertEqual(old.as_table, span_table(7, 2, 5))
        self.assertEqual(times.as_table, without(span_table(7, 1, 8), span_table(7, 2, 3)))

    def test_different_cycles(self):
        for one, other in ((7, 14), (60, 1), (3, 2)):
            for table, second in ((never(one), never(other)), (always(one), span_table(other, 5, BIG))):
                for sign, _, _ in OF_TWO:
                    with self.assertRaises(DifferentCycles):
                        sign(Times(table), Times(second))
                    with self.assertRaises(DifferentCycles):
                        sign(Times(second), Times(table))

    def test_laws(self):
        for table, other in some_pairs(67, 60):
            one, two = Times(table), Times(other)
            self.check(~(one & two), (~one | ~two).as_table)
            self.check(one - two, (one & ~two).as_table)
            self.check(one ^ two, ((one | two) - (one & two)).as_table)


class Shifts(unittest.TestCase):
    def check(self, table, n):
        times = Times(table)
        count = last_start(table) + abs(n) + 3 * table[0]
        for found, by in ((times << n, n), (times >> n, -n)):
            expected = plain_shortest(table[0], [plain_holds(table, t + by) for t in range(count)])
            self.assertIsInstance(found, Times)
            self.assertEqual(found.as_table, expected, (table, by))
            self.assertEqual(found.as_table, shifted(table, by))
        self.assertEqual(times.as_table, shortest(table))

    def test_against_the_function_and_the_plain_reading(self):
        chance = Random(68)
        for table in some_tables(69, 80):
            for n in (0, 1, -1, 2, -2, table[0], -table[0], chance.randint(-40, 40)):
                self.check(table, n)

    def test_by_any_size(self):
        times = Times(span_table(7, BIG, BIG + 3))
        self.assertEqual((times << BIG).as_table, span_table(7, 0, 3))
        self.assertEqual((times << BIG + 2).as_table, span_table(7, 0, 1))
        self.assertEqual((times << BIG + 3).as_table, never(7))
        self.assertEqual((times >> BIG).as_table, span_table(7, 2 * BIG, 2 * BIG + 3))
        self.assertEqual((times >> -BIG).as_table, span_table(7, 0, 3))
        self.assertEqual((times << -BIG).as_table, span_table(7, 2 * BIG, 2 * BIG + 3))
        huge = 10 ** 4000
        self.assertEqual((Times(always(7)) << huge).as_table, always(7))
        self.assertEqual((Times(always(7)) >> huge).as_table, span_table(7, huge, None))
        self.assertEqual((Times((7, ((0, ((2, 3),)),))) << huge).first_moment, (2 - huge) % 7)

    def test_later_and_back(self):
        for table in some_tables(70, 60) + [never(60), always(60)]:
            for n in (0, 1, 5, 61, BIG):
                self.assertEqual((Times(table) >> n << n).as_table, shortest(table))
                self.assertEqual((Times(table) << -n >> -n).as_table, shortest(table))

    def test_earlier_and_back_loses_the_moments_below_0(self):
        for table in some_tables(71, 40):
            for n in (1, 4, 50):
                kept = Times(table) & Times(span_table(table[0], n, None))
                self.assertEqual((Times(table) << n >> n).as_table, kept.as_table)

    def test_moments_of_a_shifted_set(self):
        times = Times.made(7, ("span", 2, 4))
        self.assertEqual([moment for moment in range(-3, 9) if moment in times << 3], [0])
        self.assertEqual([moment for moment in range(-3, 9) if moment in times >> 3], [5, 6])
        self.assertTrue(holds((times >> 3).as_table, 5))
