import unittest
from itertools import permutations
from random import Random

from ateverymoment.answers import first_apart, first_row, make_answer, moments_of, row_table, rows_at
from ateverymoment.errors import DifferentCycles, OtherColumns
from ateverymoment.tables import always, is_shortest, is_table, never, span_table
from tests.given import end_of_all, plain_rows_at, row_order
from tests.plain import displaced, from_moments, plain_shortest, row_of, some_table

BIG = 10 ** 30
VALUES = (-BIG, -2, -1, 0, 3, 10, "a", "ab", "b", "z")
# Tables that are not shortest: the first three have no moment, the next ones have all.
EMPTY = ((7, ((0, ()),)), (7, ((0, ((3, 5),)), (3, ()))), (7, ((0, ()), (9, ()), (BIG, ()))))
FULL = ((7, ((0, ((0, 7),)), (2, ((0, 7),)))), (7, ((0, ((0, 3),)), (3, ((0, 7),)))))
FOUR = (4, ((0, ((0, 1),)), (16, ())))


def plain_moments(pairs, count):
    """For each row of the pairs, whether it answers at each of the first moments."""
    found = {}
    for row, table in pairs:
        before = found.get(row, [False] * count)
        found[row] = [one or other for one, other in zip(before, row_of(table, count))]
    return found


def plain_answer(cycle, columns, pairs):
    """[25], with the plain shortest tables; the tables start within the first 100 moments."""
    moments = plain_moments(pairs, 100 + 3 * cycle)
    rows = sorted([row for row in moments if any(moments[row])], key=row_order)
    return cycle, columns, tuple((row, plain_shortest(cycle, moments[row])[1]) for row in rows)


def some_pairs(chance, cycle, width, most=6):
    pairs = []
    for _ in range(chance.randrange(most + 1)):
        row = tuple(chance.choice(VALUES) for _ in range(width))
        table = some_table(chance, cycle, 4, 2 * cycle)
        if chance.randrange(4) == 0:
            table = from_moments(cycle, {chance.randrange(20) for _ in range(2)}, 20)
        pairs += [(row, table)] * chance.choice((1, 1, 2))
        if chance.randrange(3) == 0:
            pairs.append((row, some_table(chance, cycle, 3, 2 * cycle)))
    chance.shuffle(pairs)
    return pairs


def some_answers(seed, count):
    """Pairs of an answer, made by the plain reading, and the pairs from which it is made."""
    chance = Random(seed)
    for _ in range(count):
        cycle, width = chance.choice((1, 2, 3, 5)), chance.choice((0, 1, 1, 2, 3))
        pairs = some_pairs(chance, cycle, width)
        yield plain_answer(cycle, ("x", "y", "z")[:width], pairs), pairs


def plain_first(answer, count):
    for moment in range(count):
        if plain_rows_at(answer, moment):
            return moment, plain_rows_at(answer, moment)[0]
    return None


def plain_apart(answer, other, count):
    for moment in range(count):
        rows = set(plain_rows_at(answer, moment)) ^ set(plain_rows_at(other, moment))
        if rows:
            return moment, min(rows, key=row_order)
    return None


class Making(unittest.TestCase):
    def check_form(self, answer):
        cycle, columns, entries = answer
        self.assertIs(type(answer), tuple)
        self.assertIs(type(columns), tuple)
        self.assertIs(type(entries), tuple)
        rows = [row for row, _ in entries]
        self.assertEqual(rows, sorted(rows, key=row_order))
        self.assertEqual(len(rows), len(set(rows)))
        for entry in entries:
            self.assertIs(type(entry), tuple)
            self.assertEqual(len(entry[0]), len(columns))
            table = (cycle, entry[1])
            self.assertTrue(is_table(table) and is_shortest(table) and table != never(cycle))

    def test_against_the_plain_reading(self):
        for expected, pairs in some_answers(131, 500):
            found = make_answer(expected[0], expected[1], pairs)
            self.assertEqual(found, expected)
            self.check_form(found)

    def test_no_pairs(self):
        for cycle in (1, 7, 60):
            for columns in ((), ("x",), tuple("abcdefgh")):
                self.assertEqual(make_answer(cycle, columns, []), (cycle, columns, ()))

    def test_no_columns(self):
        self.assertEqual(make_answer(4, (), [((), FOUR)]), (4, (), (((), FOUR[1]),)))
        self.assertEqual(make_answer(7, (), [((), span_table(7, 0, 3)), ((), span_table(7, 3, None))]),
                         (7, (), (((), always(7)[1]),)))
        self.assertEqual(make_answer(7, (), [((), never(7))]), (7, (), ()))

    def test_eight_columns(self):
        rows = [tuple(range(k, k + 8)) for k in (3, 1, 2)]
        found = make_answer(7, tuple("abcdefgh"), [(row, always(7)) for row in rows])
        self.assertEqual(found[2], tuple((row, always(7)[1]) for row in sorted(rows)))

    def test_rows_are_in_ascending_order(self):
        rows = [(-BIG,), (-1,), (0,), (2,), (10,), ("a",), ("ab",), ("b",)]
        expected = (7, ("x",), tuple((row, ((0, ((0, 7),)),)) for row in rows))
        for some in ([0, 1, 2, 3, 4, 5, 6, 7], [7, 6, 5, 4, 3, 2, 1, 0], [4, 7, 1, 0, 6, 2, 5, 3]):
            self.assertEqual(make_answer(7, ("x",), [(rows[k], always(7)) for k in some]), expected)
        for some in permutations([(1, "b"), (1, 2), ("a", 1), (0, "z")]):
            found = make_answer(7, ("x", "y"), [(row, always(7)) for row in some])
            self.assertEqual([row for row, _ in found[2]], [(0, "z"), (1, 2), (1, "b"), ("a", 1)])

    def test_a_row_in_several_pairs(self):
        tables = [span_table(7, 2, 4), span_table(7, 20, 22), span_table(7, 3, 6), span_table(7, 2, 4)]
        for some in permutations(tables):
            pairs = [(("a",), table) for table in some]
            pairs.insert(2, (("b",), always(7)))
            found = make_answer(7, ("x",), pairs)
            self.assertEqual(found, (7, ("x",), (
                (("a",), from_moments(7, {2, 3, 4, 5, 20, 21}, 30)[1]), (("b",), always(7)[1]),
            )))

    def test_tables_that_are_not_shortest(self):
        for table in FULL:
            self.assertEqual(make_answer(7, ("x",), [((1,), table)]), (7, ("x",), (((1,), always(7)[1]),)))
        table = (4, ((0, ((0, 1),)), (13, ())))
        self.assertEqual(make_answer(4, ("x",), [(("a",), table)]), (4, ("x",), ((("a",), FOUR[1]),)))

    def test_tables_of_no_moment(self):
        for table in EMPTY:
            self.assertEqual(make_answer(7, ("x",), [((1,), table)]), (7, ("x",), ()))
            self.assertEqual(make_answer(7, ("x",), [((1,), table), ((1,), never(7)), ((2,), FULL[0])]),
                             (7, ("x",), (((2,), always(7)[1]),)))
            self.assertEqual(make_answer(7, ("x",), [((1,), table), ((1,), span_table(7, 3, 5))]),
                             (7, ("x",), (((1,), span_table(7, 3, 5)[1]),)))

    def test_equal_exactly_if_the_rows_are_the_same_at_every_moment(self):
        found = {}
        for (cycle, columns, _), pairs in some_answers(132, 300):
            pairs = [(row, table) for row, table in pairs if row in ((), ("a",), ("b",), (0,))]
            answer = make_answer(cycle, columns, pairs)
            moments = plain_moments(pairs, 120)
            rows = tuple(sorted((repr(row), tuple(cells)) for row, cells in moments.items() if any(cells)))
            self.assertEqual(found.setdefault((cycle, columns, rows), answer), answer)
        self.assertEqual(len(set(map(repr, found.values()))), len(found))

    def test_very_large_numbers(self):
        pairs = [((BIG,), span_table(60, BIG, BIG + 1)), ((BIG,), span_table(60, 10 ** 4000, None))]
        found = make_answer(60, ("x",), pairs)
        self.assertEqual(rows_at(found, BIG), ((BIG,),))
        self.assertEqual(rows_at(found, BIG + 1), ())
        self.assertEqual(rows_at(found, 10 ** 4001), ((BIG,),))

    def test_the_list_stays_as_it_was(self):
        pairs = [(("b",), FULL[0]), (("a",), EMPTY[1]), (("b",), never(7))]
        found = make_answer(7, ("x",), pairs)
        self.assertEqual(pairs, [(("b",), FULL[0]), (("a",), EMPTY[1]), (("b",), never(7))])
        pairs.clear()
        self.assertEqual(found, (7, ("x",), ((("b",), always(7)[1]),)))


class RowsAt(unittest.TestCase):
    def test_against_the_plain_reading(self):
        for answer, _ in some_answers(133, 250):
            for moment in range(-8, end_of_all(answer) + 3 * answer[0]):
                found = rows_at(answer, moment)
                self.assertEqual(found, plain_rows_at(answer, moment))
                self.assertIs(type(found), tuple)

    def test_no_row_answers_at_a_negative_integer(self):
        answer = make_answer(7, (), [((), always(7))])
        self.assertEqual([rows_at(answer, moment) for moment in (-1, -7, -8, -BIG)], [(), (), (), ()])
        self.assertEqual(rows_at(answer, 0), ((),))

    def test_at_the_starts_of_lines(self):
        answer = make_answer(7, ("x",), [((2,), span_table(7, 10, 30)), (("a",), span_table(7, 0, 10)),
                                         ((1,), span_table(7, 10, None)), (("b",), always(7))])
        for moment, rows in (
            (0, (("a",), ("b",))), (9, (("a",), ("b",))), (10, ((1,), (2,), ("b",))), (29, ((1,), (2,), ("b",))),
            (30, ((1,), ("b",))), (31, ((1,), ("b",))),
        ):
            self.assertEqual(rows_at(answer, moment), rows)

    def test_at_any_size(self):
        table = (7, ((0, ()), (BIG, ((2, 4),))))
        answer = make_answer(7, ("x",), [(("a",), table), (("b",), displaced(FULL[1], 7 * BIG))])
        for moment in [BIG + k for k in range(-2, 9)] + [7 * BIG + k for k in range(-2, 9)] + [7 * 10 ** 4000 + 2]:
            self.assertEqual(rows_at(answer, moment), plain_rows_at(answer, moment))
        self.assertEqual(rows_at(answer, 7 * 10 ** 4000 + 2), (("a",), ("b",)))

    def test_an_empty_answer(self):
        for moment in (-1, 0, 5, BIG):
            self.assertEqual(rows_at((7, ("x",), ()), moment), ())


class RowTable(unittest.TestCase):
    def test_against_the_plain_reading(self):
        for answer, _ in some_answers(134, 250):
            cycle, columns, entries = answer
            for row, lines in entries:
                self.assertEqual(row_table(answer, row), (cycle, lines))
                self.assertEqual(row_table(answer, row + (1,)), never(cycle))
                if row:
                    self.assertEqual(row_table(answer, row[:-1]), never(cycle))
            rows = [row for row, _ in entries]
            for row in ((), (3,), ("q",), ("a", 0), (1, 2, 3), (0,) * 8):
                if row not in rows:
                    self.assertEqual(row_table(answer, row), never(cycle))

    def test_an_empty_answer(self):
        for row in ((), (1,), ("a", "b")):
            self.assertEqual(row_table((60, ("x",), ()), row), never(60))

    def test_the_row_without_values(self):
        self.assertEqual(row_table((4, (), (((), FOUR[1]),)), ()), FOUR)
        self.assertEqual(row_table((4, (), (((), FOUR[1]),)), ("a",)), never(4))
        self.assertEqual(row_table((4, ("x",), ((("a",), FOUR[1]),)), ()), never(4))

    def test_integers_and_words_are_not_the_same(self):
        answer = make_answer(7, ("x",), [((1,), always(7)), (("a",), span_table(7, 2, 3))])
        self.assertEqual(row_table(answer, ("b",)), never(7))
        self.assertEqual(row_table(answer, (-1,)), never(7))
        self.assertEqual(row_table(answer, ("a",)), span_table(7, 2, 3))


class MomentsOf(unittest.TestCase):
    def test_against_the_plain_reading(self):
        for answer, _ in some_answers(135, 300):
            count = end_of_all(answer) + 3 * answer[0]
            expected = plain_shortest(answer[0], [plain_rows_at(answer, moment) != () for moment in range(count)])
            self.assertEqual(moments_of(answer), expected)

    def test_an_empty_answer(self):
        for cycle in (1, 7, 60):
            self.assertEqual(moments_of((cycle, ("x",), ())), never(cycle))

    def test_very_large_numbers(self):
        answer = make_answer(7, ("x",), [((1,), span_table(7, BIG, 2 * BIG)), ((2,), span_table(7, 2 * BIG, None))])
        self.assertEqual(moments_of(answer), span_table(7, BIG, None))


class FirstRow(unittest.TestCase):
    def test_against_the_plain_reading(self):
        for answer, _ in some_answers(136, 400):
            expected = plain_first(answer, end_of_all(answer) + 3 * answer[0])
            self.assertEqual(first_row(answer), expected)

    def test_an_empty_answer(self):
        self.assertIsNone(first_row((7, (), ())))
        self.assertIsNone(first_row((60, ("x", "y"), ())))

    def test_the_least_moment_comes_before_the_least_row(self):
        answer = make_answer(7, ("x",), [((1,), span_table(7, 5, 9)), (("b",), span_table(7, 3, 4)),
                                         (("c",), span_table(7, 3, None)), ((0,), span_table(7, 4, None))])
        self.assertEqual(first_row(answer), (3, ("b",)))

    def test_at_moment_0(self):
        answer = make_answer(7, ("x",), [(("a",), always(7)), ((5,), always(7)), ((-5,), span_table(7, 1, None))])
        self.assertEqual(first_row(answer), (0, (5,)))
        self.assertEqual(first_row(make_answer(1, (), [((), always(1))])), (0, ()))

    def test_very_large_moments(self):
        answer = make_answer(7, ("x",), [(("a",), span_table(7, BIG + 1, None)), (("b",), span_table(7, BIG, BIG + 1))])
        self.assertEqual(first_row(answer), (BIG, ("b",)))


class FirstApart(unittest.TestCase):
    def check(self, answer, other, expected):
        self.assertEqual(first_apart(answer, other), expected)
        self.assertEqual(first_apart(other, answer), expected)

    def test_against_the_plain_reading(self):
        chance = Random(137)
        for answer, pairs in some_answers(138, 400):
            cycle, columns, _ = answer
            for others in (some_pairs(chance, cycle, len(columns)), pairs[:-1], pairs[1:] + pairs[:1],
                           pairs + some_pairs(chance, cycle, len(columns), 1)):
                other = plain_answer(cycle, columns, others)
                expected = plain_apart(answer, other, end_of_all(answer, other) + 3 * cycle)
                self.check(answer, other, expected)
                self.assertEqual(expected is None, answer == other)

    def test_equal_answers(self):
        for answer, _ in some_answers(139, 60):
            self.check(answer, answer, None)
            self.check(answer, tuple(list(answer)), None)

    def test_empty_answers(self):
        for columns in ((), ("x",)):
            self.check((7, columns, ()), (7, columns, ()), None)
        answer = make_answer(7, ("x",), [((2,), span_table(7, 9, 12)), ((1,), span_table(7, 9, 10))])
        self.check(answer, (7, ("x",), ()), (9, (1,)))

    def test_one_row_only(self):
        pairs = [(("a",), always(7)), (("b",), span_table(7, 3, 5)), (("c",), span_table(7, 2, None))]
        answer = make_answer(7, ("x",), pairs)
        for place, expected in enumerate(((0, ("a",)), (3, ("b",)), (2, ("c",)))):
            self.check(answer, make_answer(7, ("x",), pairs[:place] + pairs[place + 1:]), expected)

    def test_one_moment_only(self):
        pairs = [(("a",), always(7)), (("b",), span_table(7, 3, 5))]
        answer = make_answer(7, ("x",), pairs)
        for moment in (0, 2, 5, 6, 100, BIG):
            other = make_answer(7, ("x",), pairs + [(("b",), span_table(7, moment, moment + 1))])
            self.check(answer, other, (moment, ("b",)))
            other = make_answer(7, ("x",), pairs + [((0,), span_table(7, moment, moment + 1))])
            self.check(answer, other, (moment, (0,)))

    def test_the_least_moment_comes_before_the_least_row(self):
        one = make_answer(7, ("x",), [((1,), span_table(7, 0, 9)), (("b",), always(7)), (("c",), always(7))])
        other = make_answer(7, ("x",), [((1,), span_table(7, 0, 10)), (("b",), span_table(7, 0, 8)),
                                        (("c",), span_table(7, 0, 8))])
        self.check(one, other, (8, ("b",)))

    def test_at_one_moment_rows_of_either_answer(self):
        one = make_answer(7, ("x",), [(("a",), span_table(7, 4, 5)), (("d",), span_table(7, 4, 5))])
        other = make_answer(7, ("x",), [((9,), span_table(7, 4, 5)), (("e",), span_table(7, 4, 5))])
        self.check(one, other, (4, (9,)))
        other = make_answer(7, ("x",), [(("b",), span_table(7, 4, 5))])
        self.check(one, other, (4, ("a",)))

    def test_different_cycles(self):
        for one, other in ((7, 14), (1, 60), (2, 3)):
            for columns, row in (((), ()), (("x",), ("a",))):
                answers = [make_answer(one, columns, [(row, always(one))]), (one, columns, ())]
                others = [make_answer(other, columns, [(row, always(other))]), (other, columns, ())]
                for answer in answers:
                    for second in others:
                        with self.assertRaises(DifferentCycles):
                            first_apart(answer, second)
                        with self.assertRaises(DifferentCycles):
                            first_apart(second, answer)

    def test_other_columns(self):
        rows = {(): (), ("x",): (1,), ("y",): (1,), ("x", "y"): (1, 2)}
        for columns in rows:
            for others in rows:
                if columns != others:
                    for pairs, second in (([], []), ([(rows[columns], always(7))], [(rows[others], always(7))])):
                        with self.assertRaises(OtherColumns):
                            first_apart(make_answer(7, columns, pairs), make_answer(7, others, second))

    def test_different_cycles_come_before_other_columns(self):
        for one, other in (((7, ("x",), ()), (14, ("y",), ())), ((60, (), ()), (1, ("x", "y"), ()))):
            with self.assertRaises(DifferentCycles):
                first_apart(one, other)
            with self.assertRaises(DifferentCycles):
                first_apart(other, one)

    def test_the_answers_stay_as_they_were(self):
        one = make_answer(7, ("x",), [(("a",), span_table(7, 4, 5))])
        other = make_answer(7, ("x",), [(("a",), span_table(7, 4, 6))])
        before = repr((one, other))
        for function in (first_row, moments_of):
            function(one)
        first_apart(one, other)
        rows_at(one, 4)
        row_table(one, ("a",))
        self.assertEqual(repr((one, other)), before)
