import unittest
from random import Random

from ateverymoment.answers import make_answer, rows_at
from ateverymoment.tables import always, span_table
from ateverymoment.totals import counted, totaled
from tests.asking import PICKING, some_subset
from tests.given import of_answers, plain_form, some_answer
from tests.plain import from_moments

BIG = 10 ** 30
XYZ = ("x", "y", "z")
VALUES = (-2, -1, 0, 1, 3, "a", "ab")
MIXED = (-BIG, 2, BIG, "a", "ab", "b")
PAYS = make_answer(7, ("who", "worth"), [
    (("ann", 5), span_table(7, 0, 10)), (("ann", -5), span_table(7, 4, 12)), (("ann", "much"), span_table(7, 8, None)),
    (("ben", 2), span_table(7, 3, 6)),
])


class Totals(unittest.TestCase):
    def check(self, found, expected):
        self.assertEqual(found, expected)
        self.assertIsNone(plain_form(found))

    def answers(self, seed, count, cycles=(1, 2, 3, 5)):
        chance = Random(seed)
        for _ in range(count):
            columns = some_subset(chance, XYZ)
            values = chance.choice((VALUES, VALUES[3:], MIXED))
            yield chance, some_answer(chance, chance.choice(cycles), columns, values, 7)

    def check_kinds(self, chance, answer):
        columns = answer[1]
        keep = chance.choice(((), columns, some_subset(chance, columns)))
        new = chance.choice([word for word in ("a", "x", "xa", "y", "z", "zz") if word not in keep])
        self.check(counted(answer, new, keep), of_answers("count", (new, keep), answer))
        for kind in PICKING if columns else ():
            column = chance.choice(columns)
            self.check(totaled(answer, kind, new, column, keep), of_answers(kind, (new, column, keep), answer))


class Plainly(Totals):
    def test_against_the_plain_reading(self):
        for chance, answer in self.answers(321, 400):
            self.check_kinds(chance, answer)

    def test_cycles_1_and_60(self):
        for chance, answer in self.answers(322, 20, (1,)):
            self.check_kinds(chance, answer)
        for chance, answer in self.answers(323, 3, (60,)):
            self.check_kinds(chance, answer)


class Counted(Totals):
    def test_groups(self):
        self.check(counted(PAYS, "n", ("who",)), make_answer(7, ("n", "who"), [
            ((1, "ann"), from_moments(7, {0, 1, 2, 3}, 20)), ((2, "ann"), from_moments(7, {4, 5, 6, 7, 10, 11}, 20)),
            ((3, "ann"), from_moments(7, {8, 9}, 20)), ((1, "ann"), span_table(7, 12, None)),
            ((1, "ben"), span_table(7, 3, 6)),
        ]))

    def test_keep_empty(self):
        self.check(counted(PAYS, "n", ()), make_answer(7, ("n",), [
            ((1,), from_moments(7, {0, 1, 2}, 20)), ((2,), from_moments(7, {3, 6, 7, 10, 11}, 20)),
            ((3,), from_moments(7, {4, 5, 8, 9}, 20)), ((1,), span_table(7, 12, None)),
        ]))

    def test_all_columns_kept(self):
        expected = make_answer(7, ("n", "who", "worth"), [((1,) + row, (7, lines)) for row, lines in PAYS[2]])
        self.check(counted(PAYS, "n", ("who", "worth")), expected)

    def test_the_new_column_is_named_as_one_that_is_not_kept(self):
        self.check(counted(PAYS, "worth", ("who",)), (7, ("who", "worth"), tuple(
            ((who, number), lines) for (number, who), lines in
            sorted(counted(PAYS, "n", ("who",))[2], key=lambda entry: entry[0][::-1])
        )))

    def test_no_rows_give_no_group(self):
        self.check(counted((7, ("x",), ()), "n", ()), (7, ("n",), ()))
        self.check(counted((7, (), ()), "n", ()), (7, ("n",), ()))
        one = make_answer(7, ("x",), [((1,), span_table(7, 3, 5))])
        self.check(counted(one, "n", ()), make_answer(7, ("n",), [((1,), span_table(7, 3, 5))]))
        self.check(counted(make_answer(7, (), [((), always(7))]), "n", ()), make_answer(7, ("n",), [((1,), always(7))]))

    def test_many_rows(self):
        rows = [((k, k % 2), span_table(7, k, None)) for k in range(200)]
        found = counted(make_answer(7, ("x", "y"), rows), "n", ("y",))
        self.assertEqual(rows_at(found, 100), ((50, 1), (51, 0)))
        self.assertEqual(rows_at(found, BIG), ((100, 0), (100, 1)))
        self.assertEqual(len(found[2]), 200)


class Totaled(Totals):
    def test_sums_that_are_0_and_negative(self):
        self.check(totaled(PAYS, "sum", "all", "worth", ("who",)), make_answer(7, ("all", "who"), [
            ((5, "ann"), span_table(7, 0, 4)), ((0, "ann"), span_table(7, 4, 10)), ((-5, "ann"), span_table(7, 10, 12)),
            ((0, "ann"), span_table(7, 12, None)), ((2, "ben"), span_table(7, 3, 6)),
        ]))

    def test_words_add_nothing(self):
        words = make_answer(7, ("x",), [(("a",), span_table(7, 2, 4)), (("b",), span_table(7, 3, 5))])
        self.check(totaled(words, "sum", "x", "x", ()), make_answer(7, ("x",), [((0,), span_table(7, 2, 5))]))
        self.check(totaled(PAYS, "sum", "n", "who", ("worth",)), make_answer(7, ("n", "worth"), [
            ((0, worth), (7, lines)) for (_, worth), lines in PAYS[2]
        ]))

    def test_each_row_of_a_group_counts(self):
        rows = make_answer(7, ("x", "y"), [((3, "a"), always(7)), ((3, "b"), always(7)), ((3, "c"), span_table(7, 2, 3))])
        self.check(totaled(rows, "sum", "n", "x", ()), make_answer(7, ("n",), [
            ((6,), span_table(7, 0, 2)), ((9,), span_table(7, 2, 3)), ((6,), span_table(7, 3, None)),
        ]))
        self.check(totaled(rows, "sum", "y", "x", ("x",)), make_answer(7, ("x", "y"), [
            ((3, 6), span_table(7, 0, 2)), ((3, 9), span_table(7, 2, 3)), ((3, 6), span_table(7, 3, None)),
        ]))

    def test_least_and_most_over_words_and_integers(self):
        rows = make_answer(7, ("x",), [
            (("ab",), span_table(7, 0, 20)), (("a",), span_table(7, 5, 20)), ((7,), span_table(7, 8, 10)),
            ((-3,), span_table(7, 9, 10)), (("b",), span_table(7, 12, 13)),
        ])
        self.check(totaled(rows, "least", "x", "x", ()), make_answer(7, ("x",), [
            (("ab",), span_table(7, 0, 5)), (("a",), span_table(7, 5, 8)), ((7,), span_table(7, 8, 9)),
            ((-3,), span_table(7, 9, 10)), (("a",), span_table(7, 10, 20)),
        ]))
        self.check(totaled(rows, "most", "x", "x", ()), make_answer(7, ("x",), [
            (("ab",), span_table(7, 0, 12)), (("b",), span_table(7, 12, 13)), (("ab",), span_table(7, 13, 20)),
        ]))

    def test_the_column_may_be_kept_and_may_be_the_new_one(self):
        kept = make_answer(7, ("n", "who", "worth"), [((row[1],) + row, (7, lines)) for row, lines in PAYS[2]])
        for kind in ("least", "most"):
            self.check(totaled(PAYS, kind, "n", "worth", ("who", "worth")), kept)
            self.check(totaled(PAYS, kind, "worth", "worth", ("who",)), make_answer(7, ("who", "worth"), [
                ((who, number), (7, lines)) for (number, who), lines in totaled(PAYS, kind, "n", "worth", ("who",))[2]
            ]))

    def test_no_entries(self):
        for kind in PICKING:
            self.check(totaled((7, ("x", "y"), ()), kind, "n", "x", ("y",)), (7, ("n", "y"), ()))

    def test_integers_and_moments_of_any_size(self):
        rows = make_answer(7, ("x",), [((BIG,), span_table(7, BIG, None)), ((1 - BIG,), span_table(7, BIG + 7, BIG * 2))])
        found = totaled(rows, "sum", "x", "x", ())
        self.check(found, make_answer(7, ("x",), [
            ((BIG,), span_table(7, BIG, BIG + 7)), ((1,), span_table(7, BIG + 7, 2 * BIG)),
            ((BIG,), span_table(7, 2 * BIG, None)),
        ]))
        self.check(counted(rows, "n", ()), make_answer(7, ("n",), [
            ((1,), span_table(7, BIG, BIG + 7)), ((2,), span_table(7, BIG + 7, 2 * BIG)),
            ((1,), span_table(7, 2 * BIG, None)),
        ]))

    def test_the_answer_stays_as_it_was(self):
        before = repr(PAYS)
        counted(PAYS, "n", ())
        for kind in PICKING:
            totaled(PAYS, kind, "n", "worth", ("who",))
        self.assertEqual(repr(PAYS), before)
