"""The interface: each name is defined in its own file, with the arguments as they are written in the document."""

import importlib
import inspect
import unittest

FUNCTIONS = {
    "phases": ("spans_of(cells)", "cells_of(spans, cycle)", "is_spans(spans, cycle)"),
    "tables": (
        "is_table(table)", "holds(table, moment)", "shortest(table)", "is_shortest(table)", "never(cycle)",
        "always(cycle)", "span_table(cycle, start, end)",
    ),
    "finding": (
        "next_moment(table, moment)", "last_moment(table, moment)", "count_before(table, moment)",
        "nth_moment(table, n)", "is_endless(table)", "end_of(table)", "turns(table)",
        "first_difference(table, other)",
    ),
    "combining": (
        "both(table, other)", "either(table, other)", "without(table, other)", "just_one(table, other)",
        "opposite(table)", "any_of(cycle, tables)", "all_of(cycle, tables)",
    ),
    "passing": (
        "shifted(table, n)", "once(table, *, within=None)", "lately(table, *, within=None)",
        "soon(table, *, within=None)", "henceforth(table, *, within=None)", "since(table, other)",
        "until(table, other)",
    ),
    "whens": (
        "is_when(cycle, when)", "when_table(cycle, when)", "when_holds(when, moment)", "when_bound(when)",
    ),
    "values": ("is_word(text)", "is_row(row)", "compare_values(one, other)", "sorted_rows(rows)"),
    "questions": (
        "check_question(question)", "columns_of(question)", "parts_of(question)", "count_nodes(question)",
    ),
    "simplifying": ("simplified(question)",),
    "writing": ("write_question(question)",),
    "reading": ("read_question(text)",),
    "answers": (
        "make_answer(cycle, columns, pairs)", "rows_at(answer, moment)", "row_table(answer, row)",
        "moments_of(answer)", "first_row(answer)", "first_apart(answer, other)",
    ),
    "relations": (
        "joined(answer, other)", "merged(answer, other)", "excepted(answer, other)", "kept_columns(answer, columns)",
        "chosen(answer, test, left, right)", "moved(answer, kind, number)", "followed(answer, other, kind)",
    ),
    "totals": ("counted(answer, new, keep)", "totaled(answer, kind, new, column, keep)"),
    "ways": ("linked(answer)", "ways(answer, x, y)", "journey(answer, x, y, start, goal, moment)"),
    "answering": ("answer_to(cycle, facts, question)",),
    "plainly": ("horizon(cycle, facts, question)", "plain_rows(cycle, facts, question, moment)"),
    "papers": (
        "change_span(before, after)", "hull(spans)", "moved_span(question, span)", "question_span(question, changes)",
    ),
    "rings": (
        "ringing(answer, *, row=None)", "next_ring(answer, after, *, row=None)", "ring_at(answer, n, *, row=None)",
        "rings_before(answer, moment, *, row=None)", "some_rings(answer, count, *, after=-1, row=None)",
        "turned(answer, moment)",
    ),
}
ERRORS = {
    "NoQuestion": "(path)", "BadText": "(at)", "NoFact": "(number)", "NoKept": "(number)", "NoGuard": "(number)",
    "Forbidden": "(guard, moment, row)",
}


METHODS = {
    ("store", "Store", "(cycle)"): (
        "do(self, deeds)", "tell(self, name, row, when)", "withdraw(self, number)",
        "correct(self, number, *, row, when)", "facts(self)", "ask(self, question)", "keep(self, question)",
        "kept(self, number)", "drop(self, number)", "papers(self)", "forbid(self, question)", "allow(self, number)",
        "guards(self)", "what_if(self, deeds, question)",
    ),
    ("rings", "Bell", "(store, number, *, row=None)"): ("forward(self)", "advance(self, to)"),
}
OPERATORS = (
    "__contains__", "__bool__", "__and__", "__or__", "__sub__", "__xor__", "__invert__", "__lshift__", "__rshift__",
)


class Interface(unittest.TestCase):
    def test_functions_stand_in_their_files(self):
        for name, written in FUNCTIONS.items():
            module = importlib.import_module("ateverymoment." + name)
            for text in written:
                with self.subTest(module=name, function=text):
                    function = getattr(module, text.partition("(")[0])
                    self.assertEqual(function.__name__ + str(inspect.signature(function)), text)
                    self.assertEqual(function.__module__, module.__name__)

    def test_errors_take_their_attributes(self):
        module = importlib.import_module("ateverymoment.errors")
        for name, arguments in ERRORS.items():
            kind = getattr(module, name)
            self.assertEqual(str(inspect.signature(kind)), arguments)
            self.assertEqual(kind.__module__, module.__name__)

    def test_times_has_its_methods_itself(self):
        module = importlib.import_module("ateverymoment.times")
        kind = module.Times
        own = vars(kind)
        self.assertEqual(kind.__module__, module.__name__)
        self.assertEqual(str(inspect.signature(kind)), "(table)")
        for name in OPERATORS:
            self.assertTrue(inspect.isfunction(own[name]), name)
        for name in ("as_table", "first_moment"):
            self.assertIsInstance(own[name], property)
        self.assertIsInstance(own["made"], staticmethod)
        self.assertEqual(str(inspect.signature(kind.made)), "(cycle, when)")

    def test_store_and_bell_have_their_methods_themselves(self):
        for (name, written, arguments), methods in METHODS.items():
            module = importlib.import_module("ateverymoment." + name)
            kind = getattr(module, written)
            self.assertEqual(kind.__module__, module.__name__)
            self.assertEqual(str(inspect.signature(kind)), arguments)
            for text in methods:
                method = vars(kind)[text.partition("(")[0]]
                self.assertEqual(method.__name__ + str(inspect.signature(method)), text)
        store = importlib.import_module("ateverymoment.store").Store
        self.assertIsInstance(vars(store)["cycle_length"], property)
