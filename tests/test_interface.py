"""The interface: each name is defined in its own file, with the arguments as they are written in the document."""

import importlib
import inspect
import unittest

FUNCTIONS = {
    "phases": ("spans_of(cells)", "cells_of(spans, cycle)", "is_spans(spans, cycle)"),
    "tables": (
        "is_table(table)", "holds(table, moment)", "shortest(table)", "is_shortest(table)", "never(cycle)",
        "always(cycle)", "span_table(cycle, start, end)",
    ),
    "finding": (
        "next_moment(table, moment)", "last_moment(table, moment)", "count_before(table, moment)",
        "nth_moment(table, n)", "is_endless(table)", "end_of(table)", "turns(table)",
        "first_difference(table, other)",
    ),
    "combining": (
        "both(table, other)", "either(table, other)", "without(table, other)", "just_one(table, other)",
        "opposite(table)", "any_of(cycle, tables)", "all_of(cycle, tables)",
    ),
    "passing": (
        "shifted(table, n)", "once(table, *, within=None)", "lately(table, *, within=None)",
        "soon(table, *, within=None)", "henceforth(table, *, within=None)", "since(table, other)",
        "until(table, other)",
    ),
    "whens": (
        "is_when(cycle, when)", "when_table(cycle, when)", "when_holds(when, moment)", "when_bound(when)",
    ),
    "values": ("is_word(text)", "is_row(row)", "compare_values(one, other)", "sorted_rows(rows)"),
    "questions": (
        "check_question(question)", "columns_of(question)", "parts_of(question)", "count_nodes(question)",
    ),
    "simplifying": ("simplified(question)",),
    "writing": ("write_question(question)",),
    "reading": ("read_question(text)",),
    "answers": (
        "make_answer(cycle, columns, pairs)", "rows_at(answer, moment)", "row_table(answer, row)",
        "moments_of(answer)", "first_row(answer)", "first_apart(answer, other)",
    ),
    "relations": (
        "joined(answer, other)", "merged(answer, other)", "excepted(answer, other)", "kept_columns(answer, columns)",
        "chosen(answer, test, left, right)", "moved(answer, kind, number)", "followed(answer, other, kind)",
    ),
    "totals": ("counted(answer, new, keep)", "totaled(answer, kind, new, column, keep)"),
    "ways": ("linked(answer)", "ways(answer, x, y)", "journey(answer, x, y, start, goal, moment)"),
    "answering": ("answer_to(cycle, facts, question)",),
}
ERRORS = {
    "NoQuestion": "(path)", "BadText": "(at)", "NoFact": "(number)", "NoKept": "(number)", "NoGuard": "(number)",
    "Forbidden": "(guard, moment, row)",
}


OPERATORS = (
    "__contains__", "__bool__", "__and__", "__or__", "__sub__", "__xor__", "__invert__", "__lshift__", "__rshift__",
)


class Interface(unittest.TestCase):
    def test_functions_stand_in_their_files(self):
        for name, written in FUNCTIONS.items():
            module = importlib.import_module("ateverymoment." + name)
            for text in written:
                with self.subTest(module=name, function=text):
                    function = getattr(module, text.partition("(")[0])
                    self.assertEqual(function.__name__ + str(inspect.signature(function)), text)
                    self.assertEqual(function.__module__, module.__name__)

    def test_errors_take_their_attributes(self):
        module = importlib.import_module("ateverymoment.errors")
        for name, arguments in ERRORS.items():
            kind = getattr(module, name)
            self.assertEqual(str(inspect.signature(kind)), arguments)
            self.assertEqual(kind.__module__, module.__name__)

    def test_times_has_its_methods_itself(self):
        module = importlib.import_module("ateverymoment.times")
        kind = module.Times
        own = vars(kind)
        self.assertEqual(kind.__module__, module.__name__)
        self.assertEqual(str(inspect.signature(kind)), "(table)")
        for name in OPERATORS:
            self.assertTrue(inspect.isfunction(own[name]), name)
        for name in ("as_table", "first_moment"):
            self.assertIsInstance(own[name], property)
        self.assertIsInstance(own["made"], staticmethod)
        self.assertEqual(str(inspect.signature(kind.made)), "(cycle, when)")
