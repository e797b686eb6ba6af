"""Reading the questions that texts write."""

from ateverymoment.errors import BadText
from ateverymoment.kinds import ITEMS
from ateverymoment.questions import GREATEST_DEPTH, check_question
from ateverymoment.tokens import Reader
from ateverymoment.values import is_word


def read_question(text):
    """Return the question that the text writes."""
    reader = Reader(text)
    question = read_node(reader, GREATEST_DEPTH)
    if reader.at < len(text):
        raise BadText(reader.at)
    check_question(question)
    return question


def read_node(reader, depth):
    """Read a question that is at most as deep as the given depth."""
    word = reader.take_word()
    if reader.token == "[":
        return "fact", word, read_list(reader, "[", "]", read_term)
    if depth == 1 or word == "fact" or word not in ITEMS:
        raise BadText(reader.at)
    items = []
    for index, form in enumerate(ITEMS[word]):
        reader.take_sign("(" if index == 0 else ",")
        items.append(read_item(reader, form, depth))
    reader.take_sign(")")
    return (word,) + tuple(items)


def read_item(reader, form, depth):
    """Read an item of this form of a question that is at most as deep as the given depth."""
    if form == "question":
        return read_node(reader, depth - 1)
    if form == "columns":
        return read_list(reader, "{", "}", read_word)
    if form == "term":
        return read_term(reader)
    if form == "within":
        return read_within(reader)
    return reader.take_integer() if form == "integer" else reader.take_word()


def read_list(reader, first, last, read_one):
    """Read the tuple that stands between the two signs, each item with the given function."""
    reader.take_sign(first)
    items = []
    if reader.token != last:
        items.append(read_one(reader))
    while reader.token == ",":
        reader.go_on()
        items.append(read_one(reader))
    reader.take_sign(last)
    return tuple(items)


def read_word(reader):
    """Read a word."""
    return reader.take_word()


def read_term(reader):
    """Read a term."""
    if is_word(reader.token):
        return "col", reader.take_word()
    return "value", reader.take_value()


def read_within(reader):
    """Read the bound of a question that looks at the moments within it."""
    if reader.token == "ever":
        reader.go_on()
        return None
    if reader.token.startswith("-"):
        raise BadText(reader.at)
    return reader.take_integer()
