import unittest
from random import Random

from ateverymoment.errors import BadText, NoQuestion
from ateverymoment.reading import read_question
from tests.asking import KINDS, X, XY, Y, fact, plain_path, some_questions
from tests.texts import NOT_VALID, WRITTEN, plain_at, plain_text, plain_tokens, some_unchecked, tokens_of

# Tokens and other strings that are put in the place of a token.
OTHERS = (
    "(", ")", "[", "]", "{", "}", ",", "x", "ever", "fact", "once", "both", "less", '"a"', "0", "7", "-1", "00", "07",
    "-0", "-07", "-", '"', '""', '"a', 'a"', "A", "-x", ".", "\n",
)

# Texts that cannot be read, with `at`.
BAD = (
    # The text ends too early.
    ("", 0), (" ", 1), ("     ", 5), ("open", 4), ("open  ", 6), ("open[", 5), ("open[ ", 6), ("open[x", 6),
    ("open[x,", 7), ("open[x, ", 8), ("open[x, 3", 9), ('open["a"', 8), ("shift", 5), ("shift(", 6), ("shift(1", 7),
    ("shift(1,", 8), ("shift(1, open", 13), ("shift(1, open[]", 15), ("once(ever", 9), ("only({", 6), ("only({x", 7),
    ("only({x,", 8), ("only({x}", 8), ("where(", 6), ("where(less, x", 13), ("both(open[]", 11), ("  shift ( ", 10),
    # A question begins with a word.
    ("[]", 0), ("(open[])", 0), ("3", 0), ("-3", 0), ('"open"[]', 0), (",", 0), ("{}", 0), ("  )", 2),
    ("shift(1, )", 9), ("shift(1, 2)", 9), ('shift(1, "a")', 9), ("shift(1, (open[]))", 9), ("both(, open[])", 5),
    # The token behind the word.
    ("open x", 5), ("open)", 4), ("open{}", 4), ("open, open[]", 4), ("open]", 4), ("open 3", 5), ('open "a"', 5),
    ("open(", 4), ("open(open[])", 4), ("foo(1, open[])", 3), ("fact(", 4), ("fact(open[])", 4), ("fact  (x)", 6),
    ("onc(1, open[])", 3), ("onces(1, open[])", 5), ("ever(open[])", 4), ("same(open[])", 4), ("shift)", 5),
    ("shift{", 5), ("shift 1", 6), ("shift,", 5), ("shift shift", 6), ("both(open, open[])", 9),
    # Something behind the end.
    ("open[] x", 7), ("open[]]", 6), ("open[],", 6), ("open[][]", 6), ("open[] open[]", 7), ("open[]   -", 9),
    ("open[]\n", 6), ("open[] \t", 7), ('open[]"', 6), ("open[]0", 6), ("shift(1, open[]))", 16), ("f[x] A", 5),
    # Terms.
    ("f[,]", 2), ("f[x,]", 4), ("f[x, ]", 5), ("f[x,,y]", 4), ("f[x y]", 4), ("f[x 3]", 4), ('f[x"a"]', 3),
    ("f[3 x]", 4), ("f[x)", 3), ("f[)", 2), ("f[(x)]", 2), ("f[{x}]", 2), ("f[x}", 3), ("f[[x]]", 2), ("f[x[]]", 3),
    ("f[1x]", 3), ("f[x1]", 3), ("f[1-2]", 3), ("f[12 3]", 5), ("f[1,-]", 4),
    # Integers.
    ("shift(00, open[])", 6), ("shift(07, open[])", 6), ("shift(-0, open[])", 6), ("shift(-07, open[])", 6),
    ("shift(-00, open[])", 6), ("shift(007, open[])", 6), ("shift(-, open[])", 6), ("shift(- 1, open[])", 6),
    ("shift(--1, open[])", 6), ("shift(-", 6), ("shift(-0", 6), ("shift(00", 6), ("shift(+1, open[])", 6),
    ("shift(1.5, open[])", 7), ("shift(1 2, open[])", 8), ("f[07]", 2), ("f[-0]", 2), ("f[1, -07]", 5), ("f[-]", 2),
    ("f[-x]", 2), ("f[0x]", 3), ("f[x, 00", 5), ("07", 0), ("f07[]", 1), ("f-1[]", 1), ("f-[]", 1),
    ("shift(ever, open[])", 6), ("shift(x, open[])", 6), ('shift("a", open[])', 6), ("shift(open[])", 6),
    ("shift(, open[])", 6), ("shift(1 open[])", 8), ("shift(1)", 7), ("shift({}, open[])", 6),
    # Quoted words.
    ('f["]', 2), ('f[""]', 2), ('f["a]', 2), ('f["a', 2), ('f["', 2), ('f["A"]', 2), ('f["a b"]', 2), ('f["a1"]', 2),
    ('f[" a"]', 2), ('f["a ', 2), ('f["1"]', 2), ('f["a"b]', 5), ('f["a""b"]', 5), ('f["a"', 5), ('f[a"]', 3),
    ('f["a"x"]', 5), ('f["a", "', 7), ('f["a", ""', 7), ('"', 0), ('"open[]', 0),
    # Bounds.
    ("once(-1, open[])", 5), ("once(-0, open[])", 5), ("once(-, open[])", 5), ("once(eve, open[])", 5),
    ("once(evers, open[])", 5), ("once(x, open[])", 5), ("once(none, open[])", 5), ('once("ever", open[])', 5),
    ("once(open[])", 5), ("once(, open[])", 5), ("once(ever open[])", 10), ("once(ever)", 9), ("once(eve", 5),
    ("once(e", 5), ("once(-", 5), ("once(-1", 5), ("lately(-1, open[])", 7), ("soon(-5, open[])", 5),
    ("henceforth(-12, open[])", 11), ("once(1 ever, open[])", 7), ("once(ever, ever)", 15), ("once(01, open[])", 5),
    # Columns.
    ("only(x, f[x])", 5), ("only([x], f[x])", 5), ("only({1}, f[x])", 6), ('only({"x"}, f[x])', 6),
    ("only({,}, f[x])", 6), ("only({x,}, f[x])", 8), ("only({x y}, f[x])", 8), ("only({x]", 7),
    ("only({x})", 8), ("only({x} f[x])", 9),
    ("only((x), f[x])", 5), ("only(f[x])", 5), ("only({}}", 7), ("only({{x}}, f[x])", 6), ("only({-1}", 6),
    ("count(z, f[x])", 9), ("count({}, f[x])", 6), ("count(z, {x}, )", 14), ("count(3, {}, f[x])", 6),
    ("sum(z, {x}, f[x])", 7), ("sum(z, y, f[x])", 10), ('sum("z", y, {}, f[x])', 4), ("least(z, -1, {}, f[x])", 9),
    # Other items.
    ("where(3, x, x, f[x])", 6), ('where("less", x, x, f[x])', 6), ("where(less, {}, x, f[x])", 12),
    ("where(less, x, f[x])", 16), ("where(less, x, 3 f[x])", 17), ("where(less x, 3, f[x])", 11),
    ("where(less, x, 3, 4, f[x])", 18), ("linked(x, 3, f[x])", 10), ("linked(x, f[x])", 11), ("way(x y, f[x])", 6),
    ("way({x, y}, f[x])", 4), ("both(f[x])", 9), ("both(f[x], g[x], h[x])", 15), ("both(f[x] g[x])", 10),
    ("both()", 5), ("both[f[x], g[x]]", 6), ("either(f[x], )", 13), ("since(1, f[x], g[x])", 6),
    # Characters that begin no token.
    ("Open[]", 0), ("oPen[]", 1), ("open[X]", 5), ("open[x_y]", 6), ("open[x.y]", 6), ("open[x;y]", 6), ("open[']", 5),
    ("\nopen[]", 0), ("open\n[]", 4), ("open[\t]", 5), ("open[x]\x00", 7), ("@", 0), ("   ?", 3), ("open`[]", 4),
    ("open[|]", 5), ("open[~]", 5), ("open[\\]", 5), ("open[/]", 5), ("open[:]", 5), ("#open[]", 0), ("open[] #", 7),
    # Of two faults the first one.
    ("once(-1, open(", 5), ("open[A] ]", 5), ("shift(07, foo(1))", 6), ("foo(-", 3), ("open[] ] -", 7),
    ("f[x y -]", 4), ("f[- y z]", 2), ("both(f(1), g(2))", 6), ("both(f[1], g(07))", 12), ('f["a, x y]', 2),
    ('f[x y "a]', 4), ("once(x, shift(y, f[x)))", 5), ("open[] x ?", 7), ("open[] ? x", 7), ("fact(-0)", 4),
    ("either(f[x], g[y]) x", 19), ("either(f[x], g[y]", 17),
)


def deepest(text, level, around=("shift(1, ", ")")):
    """A text in which the given one stands inside level - 1 others."""
    return around[0] * (level - 1) + text + around[1] * (level - 1)


class Reads(unittest.TestCase):
    def assert_bad(self, text, at):
        with self.assertRaises(BadText, msg=text) as caught:
            read_question(text)
        self.assertEqual(caught.exception.at, at, text)

    def check(self, text):
        """Whatever the text is, the outcome is that of the plain reading. Returns False if it cannot be read."""
        at = plain_at(text)
        if at is not None:
            self.assert_bad(text, at)
            return False
        try:
            question = read_question(text)
        except NoQuestion:
            return True
        self.assertIsNone(plain_path(question))
        self.assertEqual(plain_tokens(question), [token for token, _ in tokens_of(text)[0][:-1]])
        return True


class Reading(Reads):
    def test_the_examples(self):
        self.assertEqual(read_question('once( ever, open["bar"] )'), ("once", None, fact("open", "'bar")))
        self.assert_bad("shift(07, open[])", 6)

    def test_every_kind(self):
        for question, text in WRITTEN:
            with self.subTest(text):
                self.assertEqual(read_question(text), question)

    def test_with_no_spaces(self):
        for question, text in WRITTEN:
            self.assertEqual(read_question(text.replace(" ", "")), question)

    def test_with_spaces_between_all_tokens(self):
        for question, _ in WRITTEN:
            tokens = plain_tokens(question)
            for gap in (" ", "  ", "       "):
                self.assertEqual(read_question(gap + gap.join(tokens) + gap), question)
                self.assertEqual(read_question(gap.join(tokens)), question)

    def test_with_any_number_of_spaces(self):
        chance = Random(121)
        for question in some_questions(chance, 300, 6):
            text = "".join(" " * chance.randrange(4) + token for token in plain_tokens(question))
            self.assertEqual(read_question(text + " " * chance.randrange(3)), question)

    def test_no_space_stands_inside_a_token(self):
        self.assert_bad("op en[]", 3)
        self.assert_bad("shift(1 0, open[])", 8)
        self.assert_bad("shift(- 10, open[])", 6)
        self.assert_bad('f["a "]', 2)
        self.assert_bad("once(ev er, open[])", 5)

    def test_the_name_of_a_kind_as_the_name_of_a_fact(self):
        for kind in sorted(KINDS):
            self.assertEqual(read_question(f"{kind}[]"), fact(kind))
            self.assertEqual(read_question(f"{kind} [{kind}, \"{kind}\"]"), fact(kind, kind, "'" + kind))
            self.assertEqual(read_question(f"shift(1, {kind}[x])"), ("shift", 1, fact(kind, "x")))
            self.assertEqual(read_question(f"both({kind}[], {kind}[x])"), ("both", fact(kind), fact(kind, "x")))

    def test_ever_is_a_word_in_other_places(self):
        self.assertEqual(read_question('ever[ever, "ever"]'), fact("ever", "ever", "'ever"))
        self.assertEqual(read_question("once(ever, ever[])"), ("once", None, fact("ever")))
        self.assertEqual(read_question("count(ever, {}, f[x])"), ("count", "ever", (), X))

    def test_integers(self):
        for number in (0, 1, 9, 10, 100, 10 ** 59, 10 ** 60 - 1):
            self.assertEqual(read_question(f"shift({number}, f[x])"), ("shift", number, X))
            self.assertEqual(read_question(f"once({number}, f[x])"), ("once", number, X))
            self.assertEqual(read_question(f"f[{number}]"), fact("f", number))
            if number > 0:
                self.assertEqual(read_question(f"shift(-{number}, f[x])"), ("shift", -number, X))
                self.assertEqual(read_question(f"f[-{number}]"), fact("f", -number))
                self.assert_bad(f"once(-{number}, f[x])", 5)
                self.assert_bad(f"shift(0{number}, f[x])", 6)
                self.assert_bad(f"shift(-0{number}, f[x])", 6)

    def test_written_forms_against_the_plain_reading(self):
        chance = Random(122)
        paths = set()
        for question in [some_unchecked(chance, chance.randint(1, 6)) for _ in range(2500)]:
            path = plain_path(question)
            paths.add(path)
            if path is None:
                self.assertEqual(read_question(plain_text(question)), question)
            else:
                with self.assertRaises(NoQuestion) as caught:
                    read_question(plain_text(question))
                self.assertEqual(caught.exception.path, path)
        self.assertGreater(len(paths), 15)


class NotValid(unittest.TestCase):
    def assert_path(self, text, path):
        with self.assertRaises(NoQuestion) as caught:
            read_question(text)
        self.assertEqual(caught.exception.path, path, text)

    def test_at_the_root(self):
        for _, text in NOT_VALID:
            self.assert_path(text, ())
            self.assert_path(text.replace(" ", ""), ())

    def test_inside(self):
        for _, text in NOT_VALID:
            self.assert_path(f"shift(1, {text})", (0,))
            self.assert_path(f"both(open[], once(ever, {text}))", (1, 0))
            self.assert_path(f"either({text}, {text})", (0,))

    def test_the_deepest_level(self):
        nine = "f[" + ", ".join("abcdefghi") + "]"
        self.assert_path(deepest(nine, 12), (0,) * 11)
        self.assert_path(deepest(nine, 12, ("both(open[], ", ")")), (1,) * 11)

    def test_a_text_that_cannot_be_read_is_a_bad_text_first(self):
        for _, text in NOT_VALID:
            for wrong in (text + " x", text[:-1], f"both({text}, -)", f"both({text}, {text}"):
                with self.assertRaises(BadText):
                    read_question(wrong)

    def test_many_terms_and_columns(self):
        self.assert_path("f[" + ", ".join(["x"] * 6000) + "]", ())
        self.assert_path("only({" + ", ".join(["x"] * 6000) + "}, f[x])", ())
        self.assertEqual(read_question("f[" + ", ".join(["x"] * 8) + "]"), fact("f", *(["x"] * 8)))


class Bad(Reads):
    def test_each_sentence(self):
        for text, at in BAD:
            with self.subTest(text):
                self.assert_bad(text, at)

    def test_the_helper_agrees(self):
        for text, at in BAD:
            self.assertEqual(plain_at(text), at, text)
        for _, text in WRITTEN + NOT_VALID:
            self.assertIsNone(plain_at(text))

    def test_cut_behind_each_token(self):
        for _, text in WRITTEN:
            tokens = tokens_of(text)[0][:-1]
            for token, at in tokens[:-1]:
                self.assert_bad(text[:at + len(token)], at + len(token))
                self.assert_bad(text[:at + len(token)] + "   ", at + len(token) + 3)

    def test_cut_at_each_character(self):
        for _, text in WRITTEN:
            for end in range(len(text)):
                self.assertFalse(self.check(text[:end]))
            for start in range(1, len(text)):
                self.check(text[start:])

    def test_each_token_changed(self):
        for _, text in WRITTEN:
            tokens = [token for token, _ in tokens_of(text)[0][:-1]]
            for place, token in enumerate(tokens):
                before, after = tokens[:place], tokens[place + 1:]
                self.check(" ".join(before + after))
                self.check(" ".join(before + [token, token] + after))
                self.check(" ".join(before + after[:1] + [token] + after[1:]))
                for other in OTHERS:
                    self.check(" ".join(before + [other] + after))
                    self.check("".join(before + [other] + after))
                    self.check(" ".join(before + [other, token] + after))

    def test_each_character_put_in(self):
        for text in ('f[x, "ann", 3]', "only({x, y}, once(ever, f[x]))", "shift(-10, g[])"):
            for place in range(len(text) + 1):
                for sign in range(128):
                    self.check(text[:place] + chr(sign) + text[place:])
                    self.check(text[:place] + chr(sign) + text[place + 1:])

    def test_some_changes_of_some_texts(self):
        chance = Random(123)
        read = 0
        for _ in range(3000):
            tokens = plain_tokens(some_unchecked(chance, 4))
            for _ in range(chance.randint(1, 3)):
                place = chance.randrange(len(tokens))
                tokens[place:place + chance.randrange(3)] = chance.sample(OTHERS, chance.randrange(2)) + tokens[:1]
            read += self.check("".join(token + " " * chance.randrange(3) for token in tokens))
        self.assertGreater(read, 5)

    def test_two_faults(self):
        chance = Random(124)
        for _ in range(500):
            text = plain_text(some_unchecked(chance, 4))
            first, second = sorted(chance.sample(range(len(text) + 1), 2)) if len(text) > 1 else (0, 1)
            whole = text[:first] + "?" + text[first:second] + chance.choice("?A-") + text[second:]
            self.assert_bad(whole, plain_at(whole))
            self.assertLessEqual(plain_at(whole), first)

    def test_the_twelfth_level(self):
        for around in (("shift(1, ", ")"), ("both(open[], ", ")"), ("once(ever, ", ")")):
            start = len(around[0]) * 11
            question = read_question(deepest("open[]", 12, around))
            for _ in range(11):
                question = question[-1]
            self.assertEqual(question, fact("open"))
            for kind in sorted(KINDS):
                self.assertIsNotNone(read_question(deepest(f"{kind}[]", 12, around)))
                self.assert_bad(deepest(f"{kind}(", 12, around), start + len(kind))
                self.assert_bad((around[0] * 11) + kind, start + len(kind))
                self.assert_bad((around[0] * 11) + kind + "  ", start + len(kind) + 2)
            self.assert_bad(deepest("shift(1, open[])", 12, around), start + 5)
            self.assert_bad(deepest("foo(1, open[])", 12, around), start + 3)
            self.assert_bad(deepest("shift )", 12, around), start + 6)
            self.assertIsNotNone(read_question(deepest("shift(1, open[])", 11, around)))
            self.assert_bad(deepest("open[]", 13, around), start + around[0].index("("))

    def test_the_twelfth_level_in_p(self):
        self.assertIsNotNone(read_question("both(" * 11 + "f[]" + ", g[])" * 11))
        self.assert_bad("both(" * 12 + "f[]" + ", g[])" * 12, 5 * 11 + 4)
        self.assert_bad("both(" * 400, 5 * 11 + 4)
        self.assert_bad("both(" * 4000, 5 * 11 + 4)

    def test_a_question_after_a_deep_one(self):
        text = f"both({deepest('open[]', 11)}, {deepest('open[]', 11)})"
        self.assertIsNotNone(read_question(text))
        start = len(deepest("open[]", 11)) + len("both(, ")
        self.assert_bad(f"both({deepest('open[]', 11)}, {deepest('open[]', 12)})", start + 9 * 10 + 5)

    def test_texts_of_20000_characters(self):
        self.assertEqual(read_question(" " * 9990 + "open[]" + " " * 10000), fact("open"))
        self.assertEqual(read_question("a" * 19990 + "[x]"), fact("a" * 19990, "x"))
        self.assertEqual(read_question('f["' + "a" * 19990 + '"]'), fact("f", "'" + "a" * 19990))
        self.assert_bad("a" * 20000, 20000)
        self.assert_bad('"' + "a" * 19999, 0)
        self.assert_bad(" " * 20000, 20000)
        self.assert_bad("f[" + "x," * 9999, 20000)
        self.assert_bad("f[" + "[" * 19998, 2)

    def test_300_nodes(self):
        def halved(texts):
            if len(texts) == 1:
                return texts[0]
            return f"both({halved(texts[:len(texts) // 2])}, {halved(texts[len(texts) // 2:])})"

        self.assertIsNotNone(read_question(halved(["f[x]"] * 150)))

    def test_the_columns_of_what_is_read(self):
        self.assertEqual(read_question("unless(h[x, y], g[y])"), ("unless", XY, Y))
