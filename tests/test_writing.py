import unittest
from random import Random

from ateverymoment.errors import NoQuestion
from ateverymoment.questions import check_question
from ateverymoment.reading import read_question
from ateverymoment.writing import write_question
from tests.asking import KINDS, X, Y, fact, some_questions
from tests.texts import NOT_VALID, WRITTEN, plain_text, some_unchecked

class Writing(unittest.TestCase):
    def test_the_example(self):
        question = ("sum", "z", "y", ("x",), ("fact", "pays", (("col", "x"), ("col", "y"))))
        self.assertEqual(write_question(question), "sum(z, y, {x}, pays[x, y])")

    def test_every_kind_character_by_character(self):
        self.assertEqual({question[0] for question, _ in WRITTEN}, set(KINDS))
        for question, text in WRITTEN:
            with self.subTest(text):
                self.assertIsNone(check_question(question))
                self.assertEqual(write_question(question), text)

    def test_against_the_plain_reading(self):
        chance = Random(110)
        for question in list(some_questions(chance, 500, 8)) + [some_unchecked(chance, 6) for _ in range(500)]:
            self.assertEqual(write_question(question), plain_text(question))

    def test_questions_that_are_not_valid(self):
        for question, text in NOT_VALID:
            with self.subTest(text):
                with self.assertRaises(NoQuestion):
                    check_question(question)
                self.assertEqual(write_question(question), text)

    def test_all_integers_of_60_digits_are_written(self):
        for number in (10 ** 59, 10 ** 60 - 1, -10 ** 59, 1 - 10 ** 60):
            self.assertEqual(len(str(abs(number))), 60)
            self.assertEqual(write_question(fact("f", number)), "f[" + str(number) + "]")

    def test_deep_questions_that_are_not_valid(self):
        for depth in (13, 50, 299):
            question = X
            for _ in range(depth):
                question = ("shift", 1, question)
            self.assertEqual(write_question(question), "shift(1, " * depth + "f[x]" + ")" * depth)
        question = X
        for _ in range(149):
            question = ("both", Y, question)
        self.assertEqual(write_question(question), "both(g[y], " * 149 + "f[x]" + ")" * 149)

    def test_a_text_of_20000_characters(self):
        word = "abcdefghij" * 1999
        self.assertEqual(write_question(fact("f", word, "'c")), "f[" + word + ', "c"]')

    def test_written_and_read_back(self):
        for question, text in WRITTEN:
            self.assertEqual(read_question(write_question(question)), question)
        for question in some_questions(Random(111), 800, 9):
            self.assertEqual(read_question(write_question(question)), question)

    def test_read_and_written_again(self):
        for question, text in WRITTEN:
            self.assertEqual(write_question(read_question(text)), text)

    def test_no_two_questions_have_the_same_written_form(self):
        chance = Random(112)
        texts = {}
        for question in list(some_questions(chance, 500, 3)) + [some_unchecked(chance, 3) for _ in range(500)]:
            self.assertEqual(texts.setdefault(write_question(question), question), question)

    def test_only_one_space_and_only_after_each_comma(self):
        chance = Random(113)
        for question in [some_unchecked(chance, 5) for _ in range(300)]:
            text = write_question(question)
            self.assertEqual(text.replace(", ", ","), text.replace(" ", ""))
            self.assertEqual(text.count(", "), text.count(","))
            self.assertEqual(text.count(" "), text.count(","))

    def test_the_question_stays_as_it_was(self):
        question = ("only", ("x",), ("both", X, Y))
        write_question(question)
        self.assertEqual(question, ("only", ("x",), ("both", fact("f", "x"), fact("g", "y"))))
