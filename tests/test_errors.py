import unittest

from ateverymoment import errors
from ateverymoment.errors import BadText, Forbidden, NoFact, NoGuard, NoKept, NoQuestion, StoreError

NAMES = (
    "NoCycle", "NoTable", "DifferentCycles", "NoWhen", "NoRow", "OtherColumns",
    "NoQuestion", "BadText", "NoFact", "NoKept", "NoGuard", "Forbidden",
)


class Errors(unittest.TestCase):
    def test_the_base_class_is_a_value_error(self):
        self.assertEqual(StoreError.__bases__, (ValueError,))

    def test_all_others_are_directly_under_the_base_class(self):
        for name in NAMES:
            with self.subTest(name):
                self.assertEqual(getattr(errors, name).__bases__, (StoreError,))

    def test_none_is_caught_as_another_one(self):
        kinds = [getattr(errors, name) for name in NAMES]
        for one in kinds:
            for other in kinds:
                self.assertEqual(issubclass(one, other), one is other)

    def test_errors_without_attributes_are_raised_with_a_text(self):
        for name in NAMES[:6]:
            with self.assertRaises(StoreError):
                raise getattr(errors, name)("text")

    def test_no_question_has_its_path(self):
        self.assertEqual(NoQuestion((0, 1)).path, (0, 1))
        self.assertEqual(NoQuestion(path=()).path, ())

    def test_bad_text_has_its_place(self):
        self.assertEqual(BadText(6).at, 6)
        self.assertEqual(BadText(at=0).at, 0)

    def test_numbers(self):
        for kind in (NoFact, NoKept, NoGuard):
            self.assertEqual(kind(7).number, 7)
            self.assertEqual(kind(number=-1).number, -1)

    def test_forbidden_has_the_guard_and_its_first_row(self):
        error = Forbidden(1, 3, ("a", 2))
        self.assertEqual((error.guard, error.moment, error.row), (1, 3, ("a", 2)))
        error = Forbidden(guard=2, moment=0, row=())
        self.assertEqual((error.guard, error.moment, error.row), (2, 0, ()))

    def test_the_text_of_an_error_can_be_made_for_numbers_of_any_size(self):
        huge = 10 ** 5000
        for error in (NoFact(huge), NoKept(huge), NoGuard(-huge), Forbidden(huge, huge, (huge,)), BadText(huge)):
            self.assertIsInstance(str(error), str)
