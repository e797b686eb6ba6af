import unittest
from itertools import permutations, product
from random import Random

from ateverymoment.values import compare_values, is_row, is_word, sorted_rows

BIG = 10 ** 30
WORDS = ("a", "z", "ab", "abc", "zz", "bus", "abcdefghijklmnopqrstuvwxyz", "a" * 20000)
NO_WORDS = (
    "", "A", "Z", "Ab", "aB", "abC", "0", "7", "a1", "1a", "-1", " ", "a ", " a", "a b", "\n", "a\n", "\na", "a\nb",
    "\t", "a\t", "_", "a_b", "-", "a-b", "a.b", "`", "{", "a`", "a{", "@", "[", "a,b", '"', '"a"', "\x00", "~",
    "a" * 20000 + "B",
)
# In ascending order, as the document tells: integers first, a word before the longer words that begin with it.
ASCENDING = (
    -10 ** 40, -BIG, -11, -10, -2, -1, 0, 1, 2, 9, 10, 11, 100, BIG, BIG + 1, "a", "aa", "aaa", "ab", "abc", "abd",
    "ac", "b", "ba", "c", "ca", "y", "z", "za", "zz",
)
# Rows in ascending order.
ROWS = (
    (), (-1,), (-1, -1), (-1, "a"), (0,), (0, 0), (0, 0, 0), (0, "a"), (2,), (2, "zz"), (10,), (10, -5), (BIG,),
    ("a",), ("a", -1), ("a", 0), ("a", 0, "z"), ("a", 3), ("a", 20), ("a", "a"), ("a", "a", "a"), ("a", "b"),
    ("ab",), ("ab", -7), ("b",), ("b", 0, 0, 0, 0, 0, 0, 0),
)


class Words(unittest.TestCase):
    def test_words(self):
        for text in WORDS:
            self.assertIs(is_word(text), True, text)

    def test_each_letter(self):
        for sign in range(128):
            self.assertIs(is_word(chr(sign)), chr(sign) in "abcdefghijklmnopqrstuvwxyz", sign)
            self.assertIs(is_word("a" + chr(sign) + "a"), chr(sign) in "abcdefghijklmnopqrstuvwxyz", sign)

    def test_no_words(self):
        for text in NO_WORDS:
            self.assertIs(is_word(text), False, text)


class Rows(unittest.TestCase):
    def test_rows(self):
        for row in ROWS + (("a",) * 8, (0,) * 8, (-BIG, BIG, "z"), tuple("abcdefgh")):
            self.assertIs(is_row(row), True, row)

    def test_more_than_8_values(self):
        for row in (("a",) * 9, (0,) * 9, tuple("abcdefghi"), (1,) * 8 + ("a",), (0,) * 30):
            self.assertIs(is_row(row), False, row)

    def test_strings_that_are_no_words(self):
        for text in NO_WORDS:
            for row in ((text,), (1, text), (text, "a"), ("a", "b", text), (0,) * 7 + (text,), (text,) * 9):
                self.assertIs(is_row(row), False, row)


class Comparing(unittest.TestCase):
    def test_all_pairs(self):
        for first, one in enumerate(ASCENDING):
            for second, other in enumerate(ASCENDING):
                expected = (first > second) - (first < second)
                self.assertEqual(compare_values(one, other), expected, (one, other))

    def test_the_example(self):
        self.assertEqual(compare_values(5, "a"), -1)
        self.assertEqual(compare_values("a", 5), 1)

    def test_equal_values(self):
        for value in ASCENDING:
            self.assertEqual(compare_values(value, value), 0)
        self.assertEqual(compare_values(int("9" * 40), int("9" * 40)), 0)
        self.assertEqual(compare_values("".join(["a", "b"]), "ab"), 0)

    def test_integers_are_ordered_as_numbers(self):
        self.assertEqual(compare_values(9, 10), -1)
        self.assertEqual(compare_values(-9, -10), 1)
        self.assertEqual(compare_values(10 ** 4000, 10 ** 4000 + 1), -1)

    def test_a_long_word_comes_after_its_beginning(self):
        self.assertEqual(compare_values("a" * 9999, "a" * 10000), -1)
        self.assertEqual(compare_values("a" * 10000, "a" * 9999), 1)


class SortedRows(unittest.TestCase):
    def test_no_rows(self):
        self.assertEqual(sorted_rows([]), [])

    def test_one_row(self):
        self.assertEqual(sorted_rows([()]), [()])
        self.assertEqual(sorted_rows([("a", 1)]), [("a", 1)])

    def test_all_pairs_of_rows(self):
        for (first, one), (second, other) in product(list(enumerate(ROWS)), repeat=2):
            expected = [one] if first == second else [one, other] if first < second else [other, one]
            self.assertEqual(sorted_rows([one, other]), expected)

    def test_all_orders_of_some_rows(self):
        for rows in permutations([(), (2,), (10,), ("a",), ("a", 0)]):
            self.assertEqual(sorted_rows(list(rows)), [(), (2,), (10,), ("a",), ("a", 0)])

    def test_rows_of_one_value_are_ordered_as_the_values(self):
        self.assertEqual(sorted_rows([(value,) for value in reversed(ASCENDING)]), [(value,) for value in ASCENDING])

    def test_the_first_value_that_differs_decides(self):
        rows = [("b", 1, "a"), ("a", 2, "a"), ("a", 1, "b"), ("a", 1, "a"), ("a", "a", 0), (1, "z", "z")]
        self.assertEqual(sorted_rows(rows), [
            (1, "z", "z"), ("a", 1, "a"), ("a", 1, "b"), ("a", 2, "a"), ("a", "a", 0), ("b", 1, "a"),
        ])

    def test_equal_rows_stand_once(self):
        self.assertEqual(sorted_rows([("a",), (1,), ("a",), (), (1,), ("a",), ()]), [(), (1,), ("a",)])
        self.assertEqual(sorted_rows([(-1,), (-2,), (-1,), (-2,)]), [(-2,), (-1,)])

    def test_some_lists(self):
        chance = Random(81)
        for _ in range(100):
            places = [chance.randrange(len(ROWS)) for _ in range(chance.randrange(60))]
            self.assertEqual(sorted_rows([ROWS[place] for place in places]), [ROWS[k] for k in sorted(set(places))])

    def test_the_list_stays_as_it_was(self):
        rows = [("b",), ("a",), (), ("b",)]
        found = sorted_rows(rows)
        self.assertEqual(rows, [("b",), ("a",), (), ("b",)])
        found.append((3,))
        self.assertEqual(sorted_rows(rows), [(), ("a",), ("b",)])
        ordered = [(), ("a",)]
        self.assertIsNot(sorted_rows(ordered), ordered)
