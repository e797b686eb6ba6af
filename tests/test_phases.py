import unittest
from itertools import product

from ateverymoment.phases import cells_of, is_spans, spans_of
from tests.plain import spans_from


class SpansOf(unittest.TestCase):
    def test_the_empty_list(self):
        self.assertEqual(spans_of([]), ())

    def test_no_phase_one_phase_and_all_phases(self):
        for cycle in (1, 2, 7, 60):
            self.assertEqual(spans_of([False] * cycle), ())
            self.assertEqual(spans_of([True] * cycle), ((0, cycle),))
            for phase in (0, cycle // 2, cycle - 1):
                cells = [False] * cycle
                cells[phase] = True
                self.assertEqual(spans_of(cells), ((phase, phase + 1),))

    def test_every_list_of_up_to_seven_cells(self):
        for cycle in range(1, 8):
            for cells in product((False, True), repeat=cycle):
                phases = {index for index in range(cycle) if cells[index]}
                self.assertEqual(spans_of(list(cells)), spans_from(phases))

    def test_it_gives_a_tuple_of_tuples(self):
        spans = spans_of([True, False, True])
        self.assertEqual((type(spans), type(spans[0])), (tuple, tuple))

    def test_the_list_stays_as_it_was(self):
        cells = [True, False, True]
        spans = spans_of(cells)
        self.assertEqual(cells, [True, False, True])
        cells[1] = True
        self.assertEqual(spans, ((0, 1), (2, 3)))


class CellsOf(unittest.TestCase):
    def test_the_empty_tuple(self):
        self.assertEqual(cells_of((), 1), [False])
        self.assertEqual(cells_of((), 60), [False] * 60)

    def test_all_phases_and_one_phase(self):
        self.assertEqual(cells_of(((0, 1),), 1), [True])
        self.assertEqual(cells_of(((0, 60),), 60), [True] * 60)
        self.assertEqual(cells_of(((59, 60),), 60), [False] * 59 + [True])

    def test_several_spans(self):
        self.assertEqual(cells_of(((0, 1), (2, 4)), 5), [True, False, True, True, False])

    def test_it_gives_only_true_and_false(self):
        self.assertEqual({type(cell) for cell in cells_of(((1, 3),), 4)}, {bool})

    def test_it_is_the_reverse_of_spans_of(self):
        for cycle in range(1, 8):
            for cells in product((False, True), repeat=cycle):
                self.assertEqual(cells_of(spans_of(list(cells)), cycle), list(cells))

    def test_changing_a_result_changes_nothing_else(self):
        spans = ((1, 2),)
        first = cells_of(spans, 3)
        first[0] = True
        first.append(True)
        self.assertEqual(cells_of(spans, 3), [False, True, False])
        self.assertEqual(spans, ((1, 2),))


class IsSpans(unittest.TestCase):
    def test_spans_in_one_form(self):
        for spans, cycle in (
            ((), 1), ((), 60), (((0, 1),), 1), (((0, 60),), 60), (((59, 60),), 60),
            (((0, 1), (2, 3)), 3), (((1, 2), (3, 5), (6, 7)), 7),
        ):
            with self.subTest(spans=spans, cycle=cycle):
                self.assertIs(is_spans(spans, cycle), True)

    def test_others(self):
        big = 10 ** 30
        for spans, cycle in (
            (((0, 1), (1, 2)), 7), (((0, 3), (2, 5)), 7), (((3, 4), (0, 1)), 7), (((0, 1), (0, 1)), 7),
            (((2, 2),), 7), (((0, 0),), 7), (((3, 2),), 7), (((-1, 2),), 7), (((-3, -1),), 7),
            (((0, 8),), 7), (((7, 8),), 7), (((0, 2),), 1), (((0, 61),), 60), (((0, 1), (2, 8)), 7),
            (((0, 1), (3, 3)), 7), (((0, big),), 60), (((-big, 1),), 60),
        ):
            with self.subTest(spans=spans, cycle=cycle):
                self.assertIs(is_spans(spans, cycle), False)

    def test_every_pair_of_pairs_for_a_small_cycle(self):
        numbers = range(-1, 5)
        for a, b, c, d in product(numbers, repeat=4):
            right = 0 <= a < b < c < d <= 3
            self.assertIs(is_spans(((a, b), (c, d)), 3), right)
