import unittest
from random import Random

from ateverymoment.errors import NoQuestion
from ateverymoment.questions import check_question, columns_of, count_nodes, parts_of
from tests.asking import (
    KINDS, NONE, OF_TWO, X, XY, Y, fact, in_order, plain_columns, plain_nodes, plain_parts, plain_path, some_questions,
    with_parts,
)

BIG = 10 ** 30
NO_WORDS = ("", "A", "Ab", "x1", "7", " ", "x ", "x\n", "-", "x_y", "{", "`")
EIGHT = tuple("abcdefgh")
WIDE = fact("w", *EIGHT)

# A valid question of each kind, with its columns.
VALID = {
    "fact": (fact("h", "y", "x", 3, "'ann", "y"), ("x", "y")),
    "both": (("both", XY, fact("k", "z", "y")), ("x", "y", "z")),
    "either": (("either", XY, fact("k", "y", "x")), ("x", "y")),
    "unless": (("unless", XY, Y), ("x", "y")),
    "only": (("only", ("y",), XY), ("y",)),
    "where": (("where", "less", ("col", "y"), ("value", "ann"), XY), ("x", "y")),
    "shift": (("shift", -3, XY), ("x", "y")),
    "once": (("once", 3, X), ("x",)),
    "lately": (("lately", None, X), ("x",)),
    "soon": (("soon", 0, X), ("x",)),
    "henceforth": (("henceforth", BIG, X), ("x",)),
    "since": (("since", X, XY), ("x", "y")),
    "until": (("until", Y, XY), ("x", "y")),
    "sincenot": (("sincenot", NONE, X), ("x",)),
    "untilnot": (("untilnot", XY, XY), ("x", "y")),
    "count": (("count", "n", ("x",), XY), ("n", "x")),
    "sum": (("sum", "z", "y", ("x",), XY), ("x", "z")),
    "least": (("least", "y", "y", ("x",), XY), ("x", "y")),
    "most": (("most", "b", "x", ("x", "y"), XY), ("b", "x", "y")),
    "linked": (("linked", "y", "x", XY), ("x", "y")),
    "way": (("way", "x", "y", XY), ("x", "y")),
}

# Further valid questions, at the edges of the conditions.
ALSO_VALID = (
    (fact("open"), ()), (fact("fact"), ()), (fact("once", "ever"), ("ever",)), (fact("f", -BIG, "'a"), ()),
    (fact("f", *(["x"] * 8)), ("x",)), (WIDE, EIGHT), (fact("f", *range(8)), ()),
    (("both", WIDE, fact("v", "h", "a")), EIGHT), (("both", fact("f", *"abcd"), fact("f", *"defgh")), EIGHT),
    (("both", NONE, NONE), ()), (("either", WIDE, WIDE), EIGHT), (("unless", X, NONE), ("x",)),
    (("unless", XY, XY), ("x", "y")), (("only", (), XY), ()), (("only", ("x", "y"), XY), ("x", "y")),
    (("only", (), NONE), ()), (("where", "same", ("value", 1), ("value", "a"), NONE), ()),
    (("where", "other", ("col", "x"), ("col", "x"), X), ("x",)), (("shift", 0, NONE), ()), (("shift", BIG, X), ("x",)),
    (("since", NONE, XY), ("x", "y")), (("untilnot", NONE, NONE), ()), (("count", "x", (), XY), ("x",)),
    (("count", "n", (), NONE), ("n",)), (("count", "i", tuple("abcdefg"), WIDE), tuple("abcdefgi")),
    (("count", "h", tuple("abcdefg"), WIDE), EIGHT), (("sum", "x", "x", (), X), ("x",)),
    (("sum", "x", "y", ("y",), XY), ("x", "y")), (("linked", "a", "b", fact("f", "a", "b")), ("a", "b")),
    (("way", "b", "a", fact("f", 1, "a", "b")), ("a", "b")), (("only", ("a",), WIDE), ("a",)),
)


def broken():
    """For each condition of [17] to [19] questions that break it at the root, and only there."""
    for text in NO_WORDS:
        yield "a name that is no word", ("fact", text, ())
        yield "a column that is no word", ("fact", "f", (("col", "x"), ("col", text)))
        yield "a value that is no word", ("fact", "f", (("value", text), ("col", "x")))
        yield "a left value that is no word", ("where", "same", ("value", text), ("col", "x"), X)
        yield "a right value that is no word", ("where", "same", ("col", "x"), ("value", text), X)
        yield "a left column that is no word", ("where", "same", ("col", text), ("col", "x"), X)
        yield "a test that is no word", ("where", text, ("col", "x"), ("col", "x"), X)
        yield "kept columns that are no words", ("only", (text,), X)
        yield "a step that is no word", ("linked", text, "x", XY)
        yield "a step to what is no word", ("way", "x", text, XY)
        yield "counted as what is no word", ("count", text, (), X)
        yield "counted for what is no word", ("count", "n", (text,), X)
        for kind in ("sum", "least", "most"):
            yield "a total as what is no word", (kind, text, "x", (), X)
            yield "a total of what is no word", (kind, "n", text, (), X)
            yield "a total for what is no word", (kind, "n", "x", (text,), X)
    yield "9 terms with one column", fact("f", *(["x"] * 9))
    yield "9 terms without columns", fact("f", *range(9))
    yield "9 columns of a fact", fact("f", *"abcdefghi")
    yield "9 columns of both", ("both", WIDE, fact("f", "i"))
    yield "9 columns of both, some in each", ("both", fact("f", *"abcde"), fact("f", *"efghi"))
    yield "9 columns of a count", ("count", "i", EIGHT, WIDE)
    for kind in ("sum", "least", "most"):
        yield "9 columns of a total", (kind, "i", "a", EIGHT, WIDE)
        yield "a total of a column that is not there", (kind, "n", "y", (), X)
        yield "a total of the new column", (kind, "n", "n", (), X)
        yield "a total as a column that is kept", (kind, "x", "y", ("x",), XY)
        yield "a total for a column that is not there", (kind, "n", "x", ("y",), X)
        yield "a total for columns in another order", (kind, "n", "x", ("y", "x"), XY)
        yield "a total for a column twice", (kind, "n", "x", ("x", "x"), XY)
    yield "counted as a column that is kept", ("count", "x", ("x",), XY)
    yield "counted for a column that is not there", ("count", "n", ("x", "z"), XY)
    yield "counted for columns in another order", ("count", "n", ("y", "x"), XY)
    yield "counted for a column twice", ("count", "n", ("x", "x"), XY)
    yield "either with other columns", ("either", X, Y)
    yield "either with fewer columns", ("either", XY, X)
    yield "either with more columns", ("either", X, XY)
    yield "either with no columns on one side", ("either", X, NONE)
    yield "unless with more columns", ("unless", X, XY)
    yield "unless with another column", ("unless", X, Y)
    yield "unless with a column for none", ("unless", NONE, X)
    for kind in ("since", "until", "sincenot", "untilnot"):
        yield "followed with more columns", (kind, XY, X)
        yield "followed with another column", (kind, Y, X)
        yield "followed with a column for none", (kind, X, NONE)
    yield "only columns that are not there", ("only", ("y",), X)
    yield "only a column that is not there, too", ("only", ("x", "y", "z"), XY)
    yield "only columns in another order", ("only", ("y", "x"), XY)
    yield "only a column twice", ("only", ("x", "x"), XY)
    yield "only a column of none", ("only", ("x",), NONE)
    for test in ("more", "equal", "lesss", "les", "same other"):
        yield "another test", ("where", test, ("col", "x"), ("col", "x"), X)
    yield "a left column that is not there", ("where", "less", ("col", "y"), ("col", "x"), X)
    yield "a right column that is not there", ("where", "less", ("value", 1), ("col", "y"), X)
    for kind in ("once", "lately", "soon", "henceforth"):
        for within in (-1, -2, -BIG):
            yield "a bound below 0", (kind, within, X)
    for kind in ("linked", "way"):
        yield "one step column twice", (kind, "x", "x", X)
        yield "one step column twice, with another one", (kind, "x", "x", XY)
        yield "a step column that is not there", (kind, "x", "z", XY)
        yield "more columns than the steps have", (kind, "x", "y", fact("f", "x", "y", "z"))
        yield "fewer columns than the steps have", (kind, "x", "y", X)
        yield "no columns for steps", (kind, "x", "y", NONE)


def deep(depth, kind="shift"):
    """A question of the depth: a chain of shifts, or with Q or P deep."""
    question = X
    for _ in range(depth - 1):
        if kind == "shift":
            question = ("shift", 1, question)
        else:
            question = ("both", X, question) if kind == "Q" else ("both", question, X)
    return question


class Checking(unittest.TestCase):
    def assert_path(self, question, path):
        with self.assertRaises(NoQuestion) as caught:
            check_question(question)
        self.assertEqual(caught.exception.path, path, question)
        self.assertIs(type(caught.exception.path), tuple)

    def test_each_kind_is_tried(self):
        self.assertEqual(sorted(VALID), sorted(KINDS))
        self.assertEqual(len(VALID), 21)

    def test_valid_questions(self):
        for question, _ in list(VALID.values()) + list(ALSO_VALID):
            with self.subTest(question=question):
                self.assertIsNone(check_question(question))

    def test_each_condition_at_the_root(self):
        for what, question in broken():
            with self.subTest(what, question=question):
                self.assert_path(question, ())

    def test_each_condition_in_each_part_of_each_kind(self):
        for what, question in broken():
            for kind, (around, _) in VALID.items():
                parts = plain_parts(around)
                for index in range(len(parts)):
                    whole = with_parts(around, parts[:index] + (question,) + parts[index + 1:])
                    with self.subTest(what, kind=kind, question=whole):
                        self.assert_path(whole, (index,))

    def test_each_condition_far_inside(self):
        for what, question in broken():
            self.assert_path(("unless", XY, ("shift", 1, ("since", NONE, question))), (1, 0, 1))
            self.assert_path(("once", 2, ("both", ("only", (), question), X)), (0, 0, 0))

    def test_of_two_faults_the_one_in_p_comes_first(self):
        faults = [question for _, question in broken()]
        chance = Random(91)
        for kind in OF_TWO:
            for question in faults:
                other = chance.choice(faults)
                self.assert_path((kind, question, other), (0,))
                self.assert_path((kind, ("shift", 1, question), other), (0, 0))
                self.assert_path((kind, question, ("shift", 1, other)), (0,))
                self.assert_path((kind, X, ("both", ("shift", 0, other), question)), (1, 0, 0))

    def test_parts_come_before_the_node_itself(self):
        for _, question in broken():
            parts = plain_parts(question)
            for index in range(len(parts)):
                for bad in (("fact", "No", ()), ("once", -1, X)):
                    whole = with_parts(question, parts[:index] + (bad,) + parts[index + 1:])
                    self.assert_path(whole, (index,))
                    self.assert_path(("both", whole, ("fact", "", ())), (0, index))

    def test_a_part_of_q_comes_before_p_is_asked_again(self):
        inner = ("either", X, ("once", -1, Y))
        self.assert_path(inner, (1,))
        self.assert_path(("both", inner, ("once", -1, Y)), (0, 1))
        self.assert_path(("either", X, Y), ())

    def test_the_depth(self):
        for kind in ("shift", "P", "Q"):
            for depth in range(1, 13):
                self.assertIsNone(check_question(deep(depth, kind)))
            for depth in (13, 14, 40, 150):
                self.assert_path(deep(depth, kind), ())

    def test_the_greater_depth_of_the_parts_counts(self):
        self.assertIsNone(check_question(("both", deep(11), deep(11, "Q"))))
        self.assert_path(("both", deep(12), deep(3)), ())
        self.assert_path(("both", deep(3), deep(12)), ())

    def test_a_depth_of_more_than_12_comes_before_all_else(self):
        bad = ("fact", "", ())
        for _ in range(11):
            bad = ("lately", -1, bad)
        self.assert_path(bad, (0,) * 11)
        self.assert_path(("shift", 1, bad), ())
        self.assert_path(("both", ("fact", "", ()), deep(12)), ())
        self.assert_path(("both", ("fact", "", ()), deep(11)), (0,))

    def test_the_deepest_node(self):
        for _, question in broken():
            depth = 1 if question[0] == "fact" else 2
            whole = question
            for _ in range(12 - depth):
                whole = ("both", NONE, whole)
            self.assert_path(whole, (1,) * (12 - depth))

    def test_300_nodes(self):
        parts = [X] * 150
        while len(parts) > 1:
            pairs = [("either",) + tuple(parts[k:k + 2]) for k in range(0, len(parts) - 1, 2)]
            parts = pairs + parts[2 * len(pairs):]
        self.assertEqual(count_nodes(parts[0]), 299)
        self.assertIsNone(check_question(parts[0]))
        self.assertEqual(columns_of(parts[0]), ("x",))

    def test_against_the_plain_reading(self):
        chance = Random(92)
        seen = set()
        for question in some_questions(chance, 3000, 6):
            self.assertIsNone(check_question(question))
            for _ in range(chance.randint(1, 3)):
                question = changed_somewhere(chance, question)
            path = plain_path(question)
            seen.add(path)
            if path is None:
                self.assertIsNone(check_question(question))
            else:
                self.assert_path(question, path)
        self.assertGreater(len(seen), 25)

    def test_arguments_stay_as_they_were(self):
        question = ("only", ("x",), ("both", X, Y))
        check_question(question)
        columns_of(question)
        parts_of(question)
        count_nodes(question)
        self.assertEqual(question, ("only", ("x",), ("both", fact("f", "x"), fact("g", "y"))))


def changed_somewhere(chance, question):
    """The question with one item of one of its nodes changed."""
    parts = plain_parts(question)
    if parts and chance.randrange(3):
        index = chance.randrange(len(parts))
        part = changed_somewhere(chance, parts[index])
        return with_parts(question, parts[:index] + (part,) + parts[index + 1:])
    place = chance.randrange(1, len(question))
    change = changed_terms if question[0] == "fact" and place == 2 else changed_item
    return question[:place] + (change(chance, question[place]),) + question[place + 1:]


def changed_item(chance, item):
    """Another item of the same form."""
    if isinstance(item, str):
        return chance.choice(("x", "y", "z", "less", "", "No"))
    if item is None or isinstance(item, int):
        return chance.choice((None, 0, -1, 1))
    if item and item[0] in KINDS:
        return chance.choice((X, Y, XY, NONE, fact("No"), ("shift", 1, X)))
    if item and item[0] in ("col", "value"):
        return some_term(chance)
    return chance.choice((("y", "x"), ("x", "x"), ("x", "y"), (), ("x",), ("w", "x", "y", "z")))


def changed_terms(chance, terms):
    return terms[1:] + (some_term(chance),) + chance.choice(((), terms, 4 * terms))


def some_term(chance):
    return chance.choice((("col", "x"), ("col", "z"), ("col", ""), ("value", "No"), ("value", "a"), ("value", 0)))


class Asking(unittest.TestCase):
    def test_the_example(self):
        works = ("fact", "works", (("col", "who"), ("col", "place")))
        question = ("both", works, ("fact", "open", (("col", "place"),)))
        self.assertEqual(columns_of(question), ("place", "who"))

    def test_columns_of_each_kind(self):
        for question, columns in list(VALID.values()) + list(ALSO_VALID):
            with self.subTest(question=question):
                self.assertEqual(columns_of(question), columns)

    def test_columns_against_the_plain_reading(self):
        for question in some_questions(Random(93), 600, 7):
            self.assertEqual(columns_of(question), plain_columns(question))

    def test_columns_are_in_alphabetical_order_without_duplicates(self):
        self.assertEqual(columns_of(fact("f", "b", "ab", "a", "b", "aa", "abc")), ("a", "aa", "ab", "abc", "b"))
        self.assertEqual(columns_of(("both", fact("f", "z", "m"), fact("f", "m", "a"))), ("a", "m", "z"))
        self.assertEqual(columns_of(("count", "m", ("a", "z"), fact("f", "z", "a"))), ("a", "m", "z"))
        self.assertEqual(columns_of(("sum", "zz", "a", ("a", "z"), fact("f", "z", "a"))), ("a", "z", "zz"))

    def test_parts_of_each_kind(self):
        for kind, (question, _) in VALID.items():
            expected = 0 if kind == "fact" else 2 if kind in OF_TWO else 1
            self.assertEqual(parts_of(question), question[len(question) - expected:])
            self.assertIs(type(parts_of(question)), tuple)
        self.assertEqual(parts_of(XY), ())
        self.assertEqual(parts_of(("way", "x", "y", XY)), (XY,))
        self.assertEqual(parts_of(("sincenot", X, XY)), (X, XY))
        self.assertEqual(parts_of(("sum", "z", "y", ("x",), XY)), (XY,))

    def test_parts_and_nodes_of_questions_that_are_not_valid(self):
        for _, question in broken():
            self.assertEqual(parts_of(question), plain_parts(question))
            self.assertEqual(count_nodes(question), 1 + len(plain_parts(question)))
            self.assertEqual(count_nodes(("both", question, ("shift", 1, question))), 2 + 2 * count_nodes(question))
        for kind in ("shift", "P", "Q"):
            for depth in (13, 100, 149):
                self.assertEqual(count_nodes(deep(depth, kind)), depth if kind == "shift" else 2 * depth - 1)
        self.assertEqual(count_nodes(deep(300)), 300)
        self.assertEqual(parts_of(deep(300)), (deep(299),))

    def test_nodes_of_each_kind(self):
        for kind, (question, _) in VALID.items():
            self.assertEqual(count_nodes(question), 1 if kind == "fact" else 3 if kind in OF_TWO else 2)

    def test_nodes_against_the_plain_reading(self):
        for question in some_questions(Random(94), 600, 8):
            self.assertEqual(count_nodes(question), plain_nodes(question))

    def test_equal_parts_count_each_for_itself(self):
        question = X
        for depth in range(1, 8):
            self.assertEqual(count_nodes(question), 2 ** depth - 1)
            question = ("both", question, question)

    def test_words_in_order_is_what_the_helper_takes_it_for(self):
        self.assertEqual(in_order(["b", "a", "b", "aa"]), ("a", "aa", "b"))
