"""The written form of questions."""

from ateverymoment.kinds import ITEMS


def write_question(question):
    """Return the written form of a question, which need not be valid."""
    written = []
    # A question that is not valid may be deeper than functions should call themselves.
    waiting = [question]
    while waiting:
        piece = waiting.pop()
        if isinstance(piece, str):
            written.append(piece)
        else:
            waiting.extend(written_pieces(piece)[::-1])
    return "".join(written)


def written_pieces(question):
    """Return the list of the strings of the written form, with the parts of the question as they are among them."""
    if question[0] == "fact":
        _, name, terms = question
        return [name, "[", ", ".join([written_term(term) for term in terms]), "]"]
    pieces = [question[0], "("]
    for form, item in zip(ITEMS[question[0]], question[1:]):
        pieces.append(item if form == "question" else written_item(form, item))
        pieces.append(", ")
    return pieces[:-1] + [")"]


def written_item(form, item):
    """Return the written form of an item that is not a question."""
    if form == "columns":
        return "{" + ", ".join(item) + "}"
    if form == "term":
        return written_term(item)
    return "ever" if item is None else str(item)


def written_term(term):
    """Return the written form of a term."""
    form, item = term
    if form == "value" and isinstance(item, str):
        return '"' + item + '"'
    return str(item)
