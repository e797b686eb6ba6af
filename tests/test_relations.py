import unittest
from random import Random

from ateverymoment.answers import make_answer, rows_at
from ateverymoment.errors import DifferentCycles
from ateverymoment.relations import chosen, excepted, followed, joined, kept_columns, merged, moved
from ateverymoment.tables import always, span_table
from tests.asking import combined_rows, in_order, some_subset
from tests.given import leaf, of_answers, plain_form, plain_rows_at, some_answer
from tests.plain import displaced

BIG = 10 ** 30
XYZ = ("x", "y", "z")
# Few values, so that rows of different answers meet: integers, words, and a word that begins with another one.
VALUES = (1, 2, "a", "ab")
WIDE = (-BIG, -1, 0, 7, BIG, "a", "ab", "abc", "b")
KINDS = ("once", "lately", "soon", "henceforth")
FOLLOWING = ("since", "sincenot", "until", "untilnot")
CYCLES = (1, 2, 3, 5)
EMPTY = (7, ("x",), ())
ON, OFF = (7, (), (((), always(7)[1]),)), (7, (), ())


def answer(cycle, columns, *pairs):
    return make_answer(cycle, columns, list(pairs))


class Relations(unittest.TestCase):
    def check(self, found, expected):
        self.assertEqual(found, expected)
        self.assertIsNone(plain_form(found))

    def answers(self, seed, count, values=VALUES):
        """Cycles and chances, from which to make answers."""
        chance = Random(seed)
        for _ in range(count):
            yield chance, chance.choice(CYCLES), values if chance.randrange(4) else WIDE


class Joined(Relations):
    def test_against_the_plain_reading(self):
        met = 0
        for chance, cycle, values in self.answers(301, 250):
            one, other = [some_answer(chance, cycle, some_subset(chance, XYZ), values) for _ in range(2)]
            found = joined(one, other)
            self.check(found, of_answers("both", (), one, other))
            met += found[2] != ()
        self.assertGreater(met, 60)

    def test_all_columns_in_common(self):
        one = answer(7, ("x",), ((1,), span_table(7, 0, 9)), (("a",), always(7)))
        other = answer(7, ("x",), (("a",), span_table(7, 3, 5)), (("ab",), always(7)), ((1,), span_table(7, 9, None)))
        self.check(joined(one, other), answer(7, ("x",), (("a",), span_table(7, 3, 5))))

    def test_some_columns_in_common(self):
        one = answer(7, ("x", "y"), ((1, "a"), always(7)), ((2, "ab"), span_table(7, 2, 9)))
        other = answer(7, ("w", "y"), ((5, "a"), span_table(7, 0, 3)), ((6, "ab"), span_table(7, 5, None)))
        self.check(joined(one, other), answer(7, ("w", "x", "y"), ((5, 1, "a"), span_table(7, 0, 3)),
                                              ((6, 2, "ab"), span_table(7, 5, 9))))

    def test_no_columns_in_common(self):
        one = answer(7, ("y",), ((1,), span_table(7, 0, 4)), ((2,), span_table(7, 0, 4)))
        other = answer(7, ("x",), (("b",), span_table(7, 3, 9)), (("a",), always(7)))
        self.check(joined(one, other), answer(
            7, ("x", "y"), (("a", 1), span_table(7, 0, 4)), (("a", 2), span_table(7, 0, 4)),
            (("b", 1), span_table(7, 3, 4)), (("b", 2), span_table(7, 3, 4)),
        ))

    def test_no_columns_and_no_entries(self):
        one = answer(7, ("x",), ((1,), span_table(7, 2, 4)))
        self.check(joined(one, ON), one)
        self.check(joined(ON, one), one)
        self.check(joined(one, OFF), EMPTY)
        self.check(joined(ON, ON), ON)
        self.check(joined(ON, OFF), OFF)
        self.check(joined(EMPTY, (7, ("y",), ())), (7, ("x", "y"), ()))

    def test_eight_columns(self):
        one = answer(7, tuple("aceg"), ((1, 3, 5, 7), always(7)))
        other = answer(7, tuple("bdfh"), ((2, 4, 6, 8), always(7)))
        self.check(joined(one, other), answer(7, tuple("abcdefgh"), ((1, 2, 3, 4, 5, 6, 7, 8), always(7))))


class Merged(Relations):
    def test_against_the_plain_reading(self):
        for chance, cycle, values in self.answers(302, 250):
            columns = some_subset(chance, XYZ)
            one, other = [some_answer(chance, cycle, columns, values[:3]) for _ in range(2)]
            self.check(merged(one, other), of_answers("either", (), one, other))

    def test_the_same_row_and_other_rows(self):
        one = answer(7, ("x",), ((1,), span_table(7, 0, 4)), (("b",), always(7)))
        other = answer(7, ("x",), ((1,), span_table(7, 4, None)), (("a",), span_table(7, 1, 2)))
        self.check(merged(one, other), answer(7, ("x",), ((1,), always(7)), (("a",), span_table(7, 1, 2)),
                                              (("b",), always(7))))

    def test_no_entries(self):
        one = answer(7, ("x",), ((1,), span_table(7, 0, 4)))
        self.check(merged(one, EMPTY), one)
        self.check(merged(EMPTY, one), one)
        self.check(merged(EMPTY, EMPTY), EMPTY)
        self.check(merged(ON, OFF), ON)


class Excepted(Relations):
    def test_against_the_plain_reading(self):
        for chance, cycle, values in self.answers(303, 250):
            columns = some_subset(chance, XYZ)
            one = some_answer(chance, cycle, columns, values)
            other = some_answer(chance, cycle, some_subset(chance, columns), values)
            self.check(excepted(one, other), of_answers("unless", (), one, other))

    def test_fewer_columns(self):
        one = answer(7, ("x", "y"), ((1, "a"), always(7)), ((1, "b"), span_table(7, 0, 5)), ((2, "a"), always(7)))
        other = answer(7, ("x",), ((1,), span_table(7, 3, None)))
        self.check(excepted(one, other), answer(7, ("x", "y"), ((1, "a"), span_table(7, 0, 3)),
                                                ((1, "b"), span_table(7, 0, 3)), ((2, "a"), always(7))))
        other = answer(7, ("y",), (("a",), always(7)))
        self.check(excepted(one, other), answer(7, ("x", "y"), ((1, "b"), span_table(7, 0, 5))))

    def test_no_columns(self):
        one = answer(7, ("x",), ((1,), span_table(7, 0, 9)))
        self.check(excepted(one, ON), EMPTY)
        self.check(excepted(one, OFF), one)
        self.check(excepted(one, answer(7, (), ((), span_table(7, 2, None)))),
                   answer(7, ("x",), ((1,), span_table(7, 0, 2))))
        self.check(excepted(ON, ON), OFF)


class KeptColumns(Relations):
    def test_against_the_plain_reading(self):
        for chance, cycle, values in self.answers(304, 250):
            columns = some_subset(chance, XYZ)
            one = some_answer(chance, cycle, columns, values)
            some = some_subset(chance, columns)
            self.check(kept_columns(one, some), of_answers("only", (some,), one))

    def test_all_columns_and_none(self):
        one = answer(7, ("x", "y"), ((1, "a"), span_table(7, 0, 2)), ((1, "b"), span_table(7, 2, 5)),
                     ((2, "a"), span_table(7, 8, 9)))
        self.check(kept_columns(one, ("x", "y")), one)
        self.check(kept_columns(one, ("x",)),
                   answer(7, ("x",), ((1,), span_table(7, 0, 5)), ((2,), span_table(7, 8, 9))))
        self.check(kept_columns(one, ()), answer(7, (), ((), span_table(7, 0, 5)), ((), span_table(7, 8, 9))))
        self.check(kept_columns(EMPTY, ()), OFF)
        self.check(kept_columns(ON, ()), ON)


class Chosen(Relations):
    def test_against_the_plain_reading(self):
        for chance, cycle, values in self.answers(305, 250):
            columns = some_subset(chance, XYZ)
            one = some_answer(chance, cycle, columns, values)
            terms = [("col", column) for column in columns] + [("value", value) for value in values]
            for test in ("same", "other", "less"):
                left, right = chance.choice(terms), chance.choice(terms)
                self.check(chosen(one, test, left, right), of_answers("where", (test, left, right), one))
                self.check(chosen(one, test, left, left), one if test == "same" else (cycle, columns, ()))

    def test_a_column_and_a_value_on_either_side(self):
        values = (-BIG, 0, 3, "a", "ab", "b")
        one = answer(7, ("x",), *[((value,), always(7)) for value in values])
        x = ("col", "x")
        for at, value in enumerate(values):
            for test, left, right in (
                ("same", [value], [value]), ("other", values[:at] + values[at + 1:], values[:at] + values[at + 1:]),
                ("less", values[:at], values[at + 1:]),
            ):
                for found, some in ((chosen(one, test, x, ("value", value)), left),
                                    (chosen(one, test, ("value", value), x), right)):
                    self.check(found, answer(7, ("x",), *[((some_value,), always(7)) for some_value in some]))

    def test_two_columns_and_two_values(self):
        one = answer(7, ("x", "y"), ((1, 1), always(7)), ((1, 2), always(7)), (("a", 2), always(7)),
                     (("a", "ab"), span_table(7, 3, 9)))
        x, y = ("col", "x"), ("col", "y")
        self.check(chosen(one, "same", x, y), answer(7, ("x", "y"), ((1, 1), always(7))))
        self.check(chosen(one, "less", x, y),
                   answer(7, ("x", "y"), ((1, 2), always(7)), (("a", "ab"), span_table(7, 3, 9))))
        self.check(chosen(one, "less", y, x), answer(7, ("x", "y"), (("a", 2), always(7))))
        self.check(chosen(one, "less", ("value", 5), ("value", "a")), one)
        self.check(chosen(one, "less", ("value", "a"), ("value", 5)), (7, ("x", "y"), ()))
        self.check(chosen(ON, "other", ("value", 0), ("value", -1)), ON)
        self.check(chosen(ON, "same", ("value", 0), ("value", "a")), OFF)


class Moved(Relations):
    def test_against_the_plain_reading(self):
        for chance, cycle, values in self.answers(306, 200):
            one = some_answer(chance, cycle, some_subset(chance, XYZ), values, 3)
            for kind in KINDS:
                within = chance.choice((None, 0, 1, 2, 3, cycle, 9))
                self.check(moved(one, kind, within), of_answers(kind, (within,), one))
            shift = chance.choice((0, 1, -1, 2, -3, cycle, -cycle, 20, -9))
            self.check(moved(one, "shift", shift), of_answers("shift", (shift,), one))

    def test_with_0(self):
        for chance, cycle, values in self.answers(307, 60):
            one = some_answer(chance, cycle, some_subset(chance, XYZ), values)
            for kind in KINDS + ("shift",):
                self.check(moved(one, kind, 0), one)

    def test_rows_that_no_longer_answer_are_left_out(self):
        one = answer(7, ("x",), ((1,), span_table(7, 2, 4)), (("a",), span_table(7, 2, None)))
        self.check(moved(one, "shift", 4), answer(7, ("x",), (("a",), always(7))))
        self.check(moved(one, "shift", 3), answer(7, ("x",), ((1,), span_table(7, 0, 1)), (("a",), always(7))))
        self.check(moved(one, "shift", -3), answer(7, ("x",), ((1,), span_table(7, 5, 7)),
                                                   (("a",), span_table(7, 5, None))))
        self.check(moved(one, "lately", 2), answer(7, ("x",), (("a",), span_table(7, 4, None))))
        self.check(moved(one, "lately", None), EMPTY)
        self.check(moved(one, "henceforth", None), answer(7, ("x",), (("a",), span_table(7, 2, None))))

    def test_numbers_of_any_size(self):
        one = answer(7, ("x",), ((1,), span_table(7, 2, 4)), (("a",), span_table(7, BIG, BIG + 5)))
        for kind, number, spans in (
            ("shift", BIG, (None, (0, 5))), ("shift", BIG + 5, (None, None)), ("shift", BIG - 2, (None, (2, 7))),
            ("shift", -BIG, ((BIG + 2, BIG + 4), (2 * BIG, 2 * BIG + 5))),
            ("once", BIG, ((2, BIG + 4), (BIG, 2 * BIG + 5))), ("soon", BIG, ((0, 4), (0, BIG + 5))),
            ("soon", BIG - 3, ((0, 4), (3, BIG + 5))), ("lately", 4, (None, (BIG + 4, BIG + 5))),
            ("henceforth", 4, (None, (BIG, BIG + 1))), ("lately", BIG, (None, None)), ("henceforth", BIG, (None, None)),
            ("once", None, ((2, None), (BIG, None))), ("soon", None, ((0, 4), (0, BIG + 5))),
        ):
            pairs = [(row, span_table(7, *span)) for row, span in zip(((1,), ("a",)), spans) if span]
            self.check(moved(one, kind, number), answer(7, ("x",), *pairs))
        self.check(moved(answer(7, (), ((), always(7))), "lately", 10 ** 4000), ON)

    def test_no_entries(self):
        for kind in KINDS + ("shift",):
            self.check(moved(EMPTY, kind, 3), EMPTY)
            self.check(moved(OFF, kind, 3), OFF)


class Followed(Relations):
    def test_against_the_plain_reading(self):
        for chance, cycle, values in self.answers(308, 200):
            columns = some_subset(chance, XYZ)
            other = some_answer(chance, cycle, columns, values[:3], 3)
            one = some_answer(chance, cycle, some_subset(chance, columns), values[:3])
            for kind in FOLLOWING:
                self.check(followed(one, other, kind), of_answers(kind, (), one, other))

    def test_the_same_columns_in_both_answers(self):
        for chance, cycle, values in self.answers(309, 120):
            columns = some_subset(chance, ("x", "y"))
            one, other = [some_answer(chance, cycle, columns, values[:2]) for _ in range(2)]
            for kind in FOLLOWING:
                self.check(followed(one, other, kind), of_answers(kind, (), one, other))

    def test_rows_of_the_second_answer_only(self):
        other = answer(7, ("x",), ((1,), span_table(7, 3, 4)), (("a",), span_table(7, 3, 4)))
        one = answer(7, ("x",), ((1,), span_table(7, 0, 6)), (("b",), always(7)))
        self.check(followed(one, other, "since"),
                   answer(7, ("x",), ((1,), span_table(7, 3, 6)), (("a",), span_table(7, 3, 4))))
        self.check(followed(one, other, "until"),
                   answer(7, ("x",), ((1,), span_table(7, 0, 4)), (("a",), span_table(7, 3, 4))))
        self.check(followed(one, other, "sincenot"),
                   answer(7, ("x",), ((1,), span_table(7, 3, 4)), (("a",), span_table(7, 3, None))))
        self.check(followed(one, other, "untilnot"),
                   answer(7, ("x",), ((1,), span_table(7, 3, 4)), (("a",), span_table(7, 0, 4))))

    def test_no_columns_and_no_entries(self):
        other = answer(7, ("x",), ((1,), span_table(7, 3, 4)))
        self.check(followed(ON, other, "since"), answer(7, ("x",), ((1,), span_table(7, 3, None))))
        self.check(followed(ON, other, "until"), answer(7, ("x",), ((1,), span_table(7, 0, 4))))
        self.check(followed(OFF, other, "since"), other)
        self.check(followed(OFF, other, "sincenot"), answer(7, ("x",), ((1,), span_table(7, 3, None))))
        self.check(followed(OFF, other, "untilnot"), answer(7, ("x",), ((1,), span_table(7, 0, 4))))
        for kind in FOLLOWING:
            self.check(followed(ON, OFF, kind), OFF)
            self.check(followed(other, EMPTY, kind), EMPTY)

    def test_a_row_that_comes_back_behind_the_last_line(self):
        weekly = (7, ((0, ()), (BIG, ((2, 4),))))
        phase = BIG % 7
        first = BIG + (2 - phase) % 7
        other = answer(7, (), ((), span_table(7, 1, 2)), ((), (7, ((0, ()), (first + 70, ((3, 4),))))))
        one = answer(7, (), ((), weekly))
        found = followed(one, other, "sincenot")
        moments = [1, 2, first - 1, first, first + 1, first + 2, first + 71, first + 72, first + 73, first + 76]
        self.assertEqual([rows_at(found, t) != () for t in moments],
                         [True, True, True, False, False, False, True, True, True, True])
        found = followed(one, other, "untilnot")
        self.assertEqual([rows_at(found, t) != () for t in [0, 1, 2, first, first + 1, first + 64, first + 71, BIG * 7]],
                         [True, True, False, False, False, False, True, False])


class Everywhere(Relations):
    def calls_of_two(self, one, other):
        yield lambda: joined(one, other)
        yield lambda: merged(one, other)
        yield lambda: excepted(one, other)
        for kind in FOLLOWING:
            yield lambda kind=kind: followed(one, other, kind)

    def test_different_cycles(self):
        for one, other in ((7, 14), (1, 60), (60, 59)):
            for columns, row in (((), ()), (("x",), ("a",))):
                ones = [make_answer(one, columns, [(row, always(one))]), (one, columns, ())]
                others = [make_answer(other, columns, [(row, always(other))]), (other, columns, ())]
                for first in ones:
                    for second in others:
                        for call in list(self.calls_of_two(first, second)) + list(self.calls_of_two(second, first)):
                            with self.assertRaises(DifferentCycles):
                                call()

    def test_cycles_1_and_60(self):
        chance = Random(310)
        for cycle in (1, 60):
            for _ in range(12 if cycle == 1 else 3):
                one, other = [some_answer(chance, cycle, ("x",), VALUES[1:3], 2) for _ in range(2)]
                self.check(joined(one, other), of_answers("both", (), one, other))
                self.check(merged(one, other), of_answers("either", (), one, other))
                self.check(excepted(one, other), of_answers("unless", (), one, other))
                self.check(followed(one, other, "since"), of_answers("since", (), one, other))
                self.check(followed(one, other, "untilnot"), of_answers("untilnot", (), one, other))
                self.check(moved(one, "once", 2), of_answers("once", (2,), one))

    def test_starts_of_any_size(self):
        for chance, cycle, values in self.answers(311, 40):
            columns = some_subset(chance, XYZ)
            one = some_answer(chance, cycle, columns, values)
            other = some_answer(chance, cycle, some_subset(chance, columns), values)
            by = cycle * BIG
            late = [make_answer(cycle, given[1], [(row, displaced((cycle, lines), by)) for row, lines in given[2]])
                    for given in (one, other)]
            for kind, found in (("both", joined(*late)), ("unless", excepted(*late))):
                question = (kind, leaf("p", columns), leaf("q", other[1]))
                self.assertIsNone(plain_form(found))
                for moment in list(range(5)) + [by + k for k in range(-3, 3 * cycle + 4)]:
                    given = [frozenset(plain_rows_at(part, moment)) for part in late]
                    self.assertEqual(set(plain_rows_at(found, moment)), set(combined_rows(question, given)))

    def test_the_answers_stay_as_they_were(self):
        one = answer(7, ("x",), ((1,), span_table(7, 3, 4)), (("a",), always(7)))
        other = answer(7, ("x",), ((1,), span_table(7, 2, None)))
        before = repr((one, other))
        for call in self.calls_of_two(one, other):
            call()
        kept_columns(one, ())
        chosen(one, "less", ("col", "x"), ("value", "b"))
        moved(one, "once", None)
        self.assertEqual(repr((one, other)), before)

    def test_columns_are_in_alphabetical_order(self):
        one = answer(7, ("b", "d"), ((1, 2), always(7)))
        other = answer(7, ("a", "c"), ((3, 4), always(7)))
        self.assertEqual(joined(one, other)[1], in_order("abcd"))
        self.assertEqual(joined(one, other)[2], (((3, 1, 4, 2), always(7)[1]),))
        self.assertEqual(joined(one, other), joined(other, one))
