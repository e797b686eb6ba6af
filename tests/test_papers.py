import unittest
from random import Random

from ateverymoment.errors import DifferentCycles
from ateverymoment.papers import change_span, hull, moved_span, question_span
from ateverymoment.tables import always, never, span_table
from tests.asking import KINDS, NONE, X, XY, Y, fact, fits, some_of_kind, some_questions, some_subset
from tests.keeping import plain_hull, plain_moved, plain_span
from tests.plain import from_moments, last_start, row_of, some_pairs

BIG = 10 ** 30
PQ = fact("p", "x", "y")
UNCHANGED = (
    ("both", X, Y), ("either", X, X), ("unless", X, NONE), ("only", (), X),
    ("where", "less", ("col", "x"), ("value", 5), X), ("count", "n", (), X), ("sum", "n", "x", (), X),
    ("least", "n", "x", (), X), ("most", "n", "x", (), X), ("linked", "x", "y", XY),
)


def some_span(chance):
    if chance.randrange(5) == 0:
        return None
    low = chance.choice((0, 1, 3, 8, BIG))
    return low, chance.choice((None, low + 1, low + 4, low + BIG))


def some_changes(chance, most=6):
    changes = []
    for _ in range(chance.randrange(most + 1)):
        row = tuple(chance.choice((1, -2, 2, "a")) for _ in range(chance.choice((0, 1, 1, 2, 2, 3))))
        changes.append((chance.choice(("f", "g", "h", "k")), row, some_span(chance) or (2, 5)))
    return changes


class ChangeSpan(unittest.TestCase):
    def check(self, before, after, expected):
        self.assertEqual(change_span(before, after), expected)
        self.assertEqual(change_span(after, before), expected)

    def test_against_the_plain_reading(self):
        for before, after in some_pairs(361, 600):
            count = last_start(before, after) + 2 * before[0]
            rows = zip(row_of(before, count), row_of(after, count))
            differing = [moment for moment, (one, other) in enumerate(rows) if one != other]
            expected = None
            if differing:
                expected = differing[0], None if differing[-1] >= count - before[0] else differing[-1] + 1
            self.check(before, after, expected)

    def test_equal_sets(self):
        for table in (never(7), always(7), span_table(7, 3, 9), span_table(7, BIG, None)):
            self.check(table, table, None)
        self.check((4, ((0, ((0, 1),)), (13, ()))), (4, ((0, ((0, 1),)), (16, ()))), None)
        self.check((7, ((0, ((0, 7),)), (2, ((0, 7),)))), always(7), None)

    def test_one_moment(self):
        self.check(never(7), span_table(7, 5, 6), (5, 6))
        self.check(always(60), from_moments(60, set(range(200)) - {100}, 200), (100, None))
        self.check(span_table(7, 0, BIG), span_table(7, 0, BIG + 1), (BIG, BIG + 1))
        self.check(never(1), span_table(1, 0, 1), (0, 1))

    def test_differences_that_never_end(self):
        self.check(never(7), always(7), (0, None))
        self.check((7, ((0, ((0, 3),)),)), (7, ((0, ((0, 4),)),)), (3, None))
        self.check(span_table(7, 4, None), (7, ((0, ()), (BIG, ((0, 6),)))), (4, None))

    def test_differences_with_gaps(self):
        self.check(from_moments(7, {3, 9, 30}, 40), from_moments(7, {9}, 40), (3, 31))

    def test_different_cycles(self):
        for before, after in ((never(7), never(14)), (always(1), always(60)), (never(3), span_table(6, 0, 2))):
            with self.assertRaises(DifferentCycles):
                change_span(before, after)
            with self.assertRaises(DifferentCycles):
                change_span(after, before)


class Hull(unittest.TestCase):
    def test_examples(self):
        for spans, expected in (
            ([], None), ([None], None), ([None, None], None), ([(2, 5)], (2, 5)), ([(2, None)], (2, None)),
            ([None, (2, 5)], (2, 5)), ([(2, 5), None], (2, 5)), ([(2, 5), (8, 9)], (2, 9)), ([(8, 9), (2, 5)], (2, 9)),
            ([(2, 9), (3, 4)], (2, 9)), ([(3, None), (1, 2)], (1, None)), ([(1, 2), (3, None)], (1, None)),
            ([(0, BIG), (5, BIG + 1), None], (0, BIG + 1)), ([(0, None), (0, BIG)], (0, None)),
            ([(5, None), (2, None)], (2, None)), ([(4, 5), (4, 5)], (4, 5)),
        ):
            before = list(spans)
            self.assertEqual(hull(spans), expected)
            self.assertEqual(spans, before)

    def test_in_any_order(self):
        chance = Random(362)
        for _ in range(300):
            spans = [some_span(chance) for _ in range(chance.randrange(6))]
            expected = plain_hull(spans)
            for _ in range(4):
                chance.shuffle(spans)
                self.assertEqual(hull(spans), expected)


class MovedSpan(unittest.TestCase):
    def test_shifts(self):
        for n, span, expected in (
            (3, (5, 9), (2, 6)), (0, (5, 9), (5, 9)), (-3, (5, 9), (8, 12)), (5, (5, 9), (0, 4)), (7, (5, 9), (0, 2)),
            (8, (5, 9), (0, 1)), (9, (5, 9), None), (10, (5, 9), None), (BIG, (5, 9), None), (BIG, (5, None), (0, None)),
            (2, (5, None), (3, None)), (-BIG, (5, None), (BIG + 5, None)), (-BIG, (0, 1), (BIG, BIG + 1)),
            (BIG, (BIG - 1, BIG + 1), (0, 1)),
        ):
            self.assertEqual(moved_span(("shift", n, X), span), expected)

    def test_bounds(self):
        for kind in ("once", "lately"):
            for within, span, expected in ((0, (5, 9), (5, 9)), (3, (5, 9), (5, 12)), (None, (5, 9), (5, None)),
                                           (3, (5, None), (5, None)), (None, (5, None), (5, None)),
                                           (BIG, (0, 1), (0, BIG + 1))):
                self.assertEqual(moved_span((kind, within, X), span), expected)
        for kind in ("soon", "henceforth"):
            for within, span, expected in ((0, (5, 9), (5, 9)), (3, (5, 9), (2, 9)), (8, (5, 9), (0, 9)),
                                           (5, (5, 9), (0, 9)), (None, (5, 9), (0, 9)), (3, (5, None), (2, None)),
                                           (None, (5, None), (0, None)), (BIG, (BIG + 2, None), (2, None))):
                self.assertEqual(moved_span((kind, within, X), span), expected)

    def test_the_other_kinds(self):
        for span in ((0, 1), (5, 9), (5, None), (BIG, BIG + 1)):
            low, high = span
            for kind in ("since", "sincenot"):
                self.assertEqual(moved_span((kind, X, X), span), (low, None))
            for question in (("until", X, X), ("untilnot", NONE, X), ("way", "x", "y", XY), ("way", "y", "x", XY)):
                self.assertEqual(moved_span(question, span), (0, high))
            for question in UNCHANGED:
                self.assertEqual(moved_span(question, span), span)

    def test_no_span(self):
        for question in UNCHANGED + (("shift", -3, X), ("once", None, X), ("soon", None, X), ("since", X, X),
                                     ("until", X, X), ("way", "x", "y", XY)):
            self.assertIsNone(moved_span(question, None))

    def test_every_kind_against_the_plain_reading(self):
        chance = Random(363)
        for kind in KINDS:
            for _ in range(60 if kind != "fact" else 0):
                columns = some_subset(chance, ("x", "y", "z"))
                if fits(kind, columns):
                    question = some_of_kind(chance, kind, columns, 2)
                    span = some_span(chance)
                    self.assertEqual(moved_span(question, span), plain_moved(question, span), (question, span))


class QuestionSpan(unittest.TestCase):
    def test_facts(self):
        changes = [("f", (1,), (3, 5)), ("f", ("a",), (8, 9)), ("f", (1, 2), (20, 21)), ("g", (1,), (30, None)),
                   ("f", (2, 2), (40, 44)), ("f", (), (50, 51)), ("fa", (1,), (60, 61))]
        for question, expected in (
            (X, (3, 9)), (fact("f", 1), (3, 5)), (fact("f", 2), None), (fact("f", "'a"), (8, 9)),
            (fact("f", "x", "y"), (20, 44)), (fact("f", "x", "x"), (40, 44)), (fact("f", 1, "x"), (20, 21)),
            (fact("f"), (50, 51)), (fact("g", "z"), (30, None)), (fact("f", "x", "y", "z"), None),
            (fact("none", "x"), None), (fact("fa", "x"), (60, 61)),
        ):
            self.assertEqual(question_span(question, changes), expected)

    def test_a_name_several_times(self):
        changes = [("f", (1,), (30, 31)), ("f", (1,), (3, 5)), ("f", (1,), (3, 5)), ("f", (2,), (7, 9))]
        self.assertEqual(question_span(fact("f", 1), changes), (3, 31))
        self.assertEqual(question_span(X, changes), (3, 31))
        self.assertEqual(question_span(X, changes[1:]), (3, 9))
        self.assertEqual(question_span(X, [("f", (1,), (2, 3)), ("f", (1,), (1, None))]), (1, None))

    def test_spans_move_at_each_node(self):
        changes = [("f", (1,), (10, 12)), ("h", (1, 2), (50, 60))]
        for question, expected in (
            (("once", 3, ("shift", 2, X)), (8, 13)), (("shift", 12, X), None), (("both", ("shift", 12, X), XY), (50, 60)),
            (("both", ("once", 3, X), XY), (10, 60)), (("both", ("soon", 3, X), Y), (7, 12)),
            (("until", NONE, ("shift", 20, XY)), (0, 40)), (("since", X, ("soon", 5, XY)), (10, None)),
            (("shift", 5, ("since", X, XY)), (5, None)), (("way", "x", "y", ("shift", -5, XY)), (0, 65)),
            (("once", None, ("shift", 12, X)), None), (("count", "n", (), ("soon", None, XY)), (0, 60)), (Y, None),
            (("unless", Y, ("henceforth", 10, X)), (0, 12)), (("since", Y, Y), None),
        ):
            self.assertEqual(question_span(question, changes), expected)
            self.assertIsNone(question_span(question, []))

    def test_against_the_plain_reading(self):
        chance = Random(364)
        spans = 0
        for question in some_questions(chance, 1500, 5):
            changes = some_changes(chance)
            before = list(changes)
            found = question_span(question, changes)
            # A dict has each name and row only once.
            hulls = {change[:2]: plain_hull([span for *pair, span in changes if tuple(pair) == change[:2]])
                     for change in changes}
            self.assertEqual(found, plain_span(question, hulls), (question, changes))
            self.assertEqual(changes, before)
            spans += found is not None
        self.assertGreater(spans, 250)


class Forms(unittest.TestCase):
    def test_spans_are_tuples(self):
        self.assertIs(type(change_span(never(7), always(7))), tuple)
        self.assertIs(type(hull([(1, 2)])), tuple)
        self.assertIs(type(moved_span(("once", 2, PQ), (1, 2))), tuple)
        self.assertIs(type(question_span(X, [("f", (1,), (1, 2))])), tuple)
