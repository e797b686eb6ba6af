"""A plain reading of [21] to [23]: texts taken apart, and the first place at which they cannot be read.

Nothing here uses the package. The texts are judged by a list of what is expected next, not by functions that
call each other.
"""

import re

from tests.asking import KINDS, NONE, X, XY, Y, fact

TOKEN = re.compile(r'[a-z]+|"[a-z]+"|-?(?:[1-9][0-9]*)|0(?![0-9])|[()\[\]{},]')
WORD = re.compile(r"[a-z]+\Z")
FORMS = {
    "both": "QQ", "either": "QQ", "unless": "QQ", "since": "QQ", "until": "QQ", "sincenot": "QQ", "untilnot": "QQ",
    "only": "CQ", "where": "wttQ", "shift": "iQ", "once": "bQ", "lately": "bQ", "soon": "bQ", "henceforth": "bQ",
    "count": "wCQ", "sum": "wwCQ", "least": "wwCQ", "most": "wwCQ", "linked": "wwQ", "way": "wwQ",
}
LARGE = int("123456789" * 6 + "123456")

# Questions with their written form.
WRITTEN = (
    (NONE, "open[]"), (X, "f[x]"), (XY, "h[x, y]"), (fact("works", "x", "'ann", 3), 'works[x, "ann", 3]'),
    (fact("f", 0, -1, 10, -100), "f[0, -1, 10, -100]"), (fact("f", "'a", "a"), 'f["a", a]'),
    (fact("f", "'ever", "ever"), 'f["ever", ever]'), (fact("fact", "fact"), "fact[fact]"),
    (fact("once", "'once"), 'once["once"]'), (fact("f", LARGE), f"f[{LARGE}]"), (fact("f", -LARGE), f"f[-{LARGE}]"),
    (("both", X, Y), "both(f[x], g[y])"), (("either", X, X), "either(f[x], f[x])"),
    (("unless", XY, Y), "unless(h[x, y], g[y])"), (("only", ("x", "y"), XY), "only({x, y}, h[x, y])"),
    (("only", ("x",), XY), "only({x}, h[x, y])"), (("only", (), XY), "only({}, h[x, y])"),
    (("where", "less", ("col", "x"), ("value", 3), XY), "where(less, x, 3, h[x, y])"),
    (("where", "same", ("value", "x"), ("col", "y"), XY), 'where(same, "x", y, h[x, y])'),
    (("where", "other", ("value", -3), ("value", "ann"), NONE), 'where(other, -3, "ann", open[])'),
    (("shift", -1, X), "shift(-1, f[x])"), (("shift", 0, X), "shift(0, f[x])"), (("shift", 12, X), "shift(12, f[x])"),
    (("shift", -LARGE, X), f"shift(-{LARGE}, f[x])"), (("shift", LARGE, X), f"shift({LARGE}, f[x])"),
    (("once", 5, X), "once(5, f[x])"), (("once", None, X), "once(ever, f[x])"), (("once", 0, X), "once(0, f[x])"),
    (("lately", LARGE, X), f"lately({LARGE}, f[x])"), (("lately", None, X), "lately(ever, f[x])"),
    (("soon", None, X), "soon(ever, f[x])"), (("soon", 10, X), "soon(10, f[x])"),
    (("henceforth", 3, X), "henceforth(3, f[x])"), (("henceforth", None, X), "henceforth(ever, f[x])"),
    (("since", X, XY), "since(f[x], h[x, y])"), (("until", X, XY), "until(f[x], h[x, y])"),
    (("sincenot", X, XY), "sincenot(f[x], h[x, y])"), (("untilnot", NONE, X), "untilnot(open[], f[x])"),
    (("count", "z", (), XY), "count(z, {}, h[x, y])"), (("count", "z", ("x", "y"), XY), "count(z, {x, y}, h[x, y])"),
    (("sum", "z", "y", ("x",), XY), "sum(z, y, {x}, h[x, y])"), (("sum", "z", "y", (), XY), "sum(z, y, {}, h[x, y])"),
    (("least", "z", "y", ("x", "y"), XY), "least(z, y, {x, y}, h[x, y])"),
    (("most", "most", "y", ("x",), XY), "most(most, y, {x}, h[x, y])"),
    (("linked", "x", "y", XY), "linked(x, y, h[x, y])"), (("way", "y", "x", XY), "way(y, x, h[x, y])"),
    (("since", ("shift", -1, NONE), ("both", X, ("once", None, Y))),
     "since(shift(-1, open[]), both(f[x], once(ever, g[y])))"),
    (("both", ("both", X, Y), ("both", Y, X)), "both(both(f[x], g[y]), both(g[y], f[x]))"),
)

# Questions that are not valid but can be written.
NOT_VALID = (
    (("either", X, Y), "either(f[x], g[y])"), (("only", ("y", "x"), X), "only({y, x}, f[x])"),
    (("only", ("x", "x"), X), "only({x, x}, f[x])"),
    (("where", "more", ("col", "z"), ("value", 1), X), "where(more, z, 1, f[x])"),
    (("count", "x", ("x",), X), "count(x, {x}, f[x])"), (("linked", "x", "x", X), "linked(x, x, f[x])"),
    (fact("f", *"abcdefghi"), "f[a, b, c, d, e, f, g, h, i]"), (("since", XY, NONE), "since(h[x, y], open[])"),
)


def tokens_of(text):
    """Pairs of a token and the index of its first character; (None, index) where no token begins; the end of all."""
    found, at = [], 0
    while True:
        while at < len(text) and text[at] == " ":
            at += 1
        match = TOKEN.match(text, at)
        if match is None:
            found.append((None, at))
            return found, at == len(text)
        found.append((match.group(), at))
        at = match.end()


def plain_at(text):
    """[23]: the `at` of BadText, or None if the text can be read."""
    tokens, whole = tokens_of(text)
    expected = [("Q", 1)]
    for token, at in tokens:
        if token is None:
            return None if whole and expected == [] else at
        if expected == [] or not accepted(token, expected):
            return at
    return None


def accepted(token, expected):
    """Whether the token fits what is expected first, which is the last item; that is replaced by what comes then."""
    what, *told = expected.pop()
    is_word, is_integer = WORD.match(token) is not None, token[-1].isdigit()
    if what == "sign":
        return token == told[0]
    if what == "Q":
        expected.append(("behind", token, told[0]))
        return is_word
    if what == "behind":
        return accepted_behind(token, *told, expected)
    if what in ("first", "next"):
        return accepted_in_list(token, what, *told, expected)
    if what == "t":
        return is_word or is_integer or token[0] == '"'
    if what == "b":
        return token == "ever" or (is_integer and token[0] != "-")
    return is_word if what == "w" else is_integer


def accepted_behind(token, word, level, expected):
    if token == "[":
        expected.append(("first", "t", "]"))
        return True
    if token != "(" or word not in FORMS or level == 12:
        return False
    wanted = []
    for form in FORMS[word]:
        if form == "C":
            wanted += [("sign", "{"), ("first", "w", "}")]
        else:
            wanted.append((form, level + 1))
        wanted.append(("sign", ","))
    wanted[-1] = ("sign", ")")
    expected.extend(reversed(wanted))
    return True


def accepted_in_list(token, what, form, last, expected):
    if token == last:
        return True
    expected.append(("next", form, last))
    if what == "next":
        expected.append((form, None))
        return token == ","
    expected.append((form, None))
    return accepted(token, expected)


def some_term(chance):
    return chance.choice((("col", some_word(chance)), ("value", some_word(chance)), ("value", some_integer(chance))))


def some_word(chance):
    return chance.choice(("x", "y", "z", "ever", "fact", "once", "open", "less", "abcz", "a" * 30))


def some_integer(chance):
    return chance.choice((0, 1, -1, 7, 10, -10, 100, 10 ** 59, -10 ** 60 + 1))


def some_unchecked(chance, depth):
    """A question of the form of [18], with words in all places, that need not be valid."""
    if depth == 1 or chance.randrange(5) == 0:
        name = chance.choice(sorted(KINDS)) if chance.randrange(2) else some_word(chance)
        return "fact", name, tuple(some_term(chance) for _ in range(chance.choice((0, 1, 1, 2, 3, 9))))
    kind = chance.choice(sorted(FORMS))
    items = []
    for form in FORMS[kind]:
        if form == "Q":
            items.append(some_unchecked(chance, depth - 1))
        elif form == "C":
            items.append(tuple(some_word(chance) for _ in range(chance.choice((0, 1, 2, 3)))))
        elif form == "t":
            items.append(some_term(chance))
        elif form == "w":
            items.append(some_word(chance))
        else:
            items.append(chance.choice((None, 0, 1, 10, 10 ** 59)) if form == "b" else some_integer(chance))
    return (kind,) + tuple(items)


def plain_text(question):
    """[21], with another way to put it together: all tokens first."""
    return "".join(plain_tokens(question)).replace(",", ", ")


def plain_tokens(question):
    """The tokens of the written form."""
    if question[0] == "fact":
        return [question[1], "["] + with_commas([plain_term(term) for term in question[2]]) + ["]"]
    items = []
    for form, item in zip(FORMS[question[0]], question[1:]):
        if form == "Q":
            items.append(plain_tokens(item))
        elif form == "C":
            items.append(["{"] + with_commas([[word] for word in item]) + ["}"])
        elif form == "t":
            items.append(plain_term(item))
        else:
            items.append(["ever" if item is None else str(item)])
    return [question[0], "("] + with_commas(items) + [")"]


def plain_term(term):
    return ['"' + term[1] + '"' if term[0] == "value" and isinstance(term[1], str) else str(term[1])]


def with_commas(items):
    """The tokens of all items, with a comma between each two of them."""
    found = []
    for index, item in enumerate(items):
        found += ([","] if index else []) + item
    return found

