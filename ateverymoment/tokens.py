"""Texts taken apart into tokens."""

from ateverymoment.errors import BadText
from ateverymoment.values import is_word

SIGNS = "()[]{},"
LETTERS = "abcdefghijklmnopqrstuvwxyz"
DIGITS = "0123456789"


def run_end(text, at, signs):
    """Return the index behind the run of some of the signs that begins at the index."""
    end = at
    while end < len(text) and text[end] in signs:
        end += 1
    return end


def token_end(text, at):
    """Return the index behind the token that begins at the index, or the same index if none begins there."""
    if at == len(text):
        return at
    if text[at] in SIGNS:
        return at + 1
    if text[at] in LETTERS:
        return run_end(text, at, LETTERS)
    if text[at] == '"':
        return quoted_end(text, at)
    return integer_end(text, at)


def quoted_end(text, at):
    """Return the index behind the quoted word that begins at the index, or the same index if it is none."""
    end = run_end(text, at + 1, LETTERS)
    if end > at + 1 and text[end:end + 1] == '"':
        return end + 1
    return at


def integer_end(text, at):
    """Return the index behind the integer that begins at the index, or the same index if it is none."""
    first = at + 1 if text[at] == "-" else at
    end = run_end(text, first, DIGITS)
    if end == first or (text[first] == "0" and text[at:end] != "0"):
        return at
    return end


class Reader:
    """A text that is read token by token.

    `token` is the token that is read next, and `at` is the index of its first character.
    If no token begins there, or the text ends there, it is the empty string, which fits nowhere.
    """

    def __init__(self, text):
        self.text = text
        self.token = ""
        self.at = 0
        self.go_on()

    def go_on(self):
        """Go on to the next token."""
        self.at = run_end(self.text, self.at + len(self.token), " ")
        self.token = self.text[self.at:token_end(self.text, self.at)]

    def take_sign(self, sign):
        """Go behind the sign, which must be the next token."""
        if self.token != sign:
            raise BadText(self.at)
        self.go_on()

    def take_word(self):
        """Go behind the word that must be the next token, and return it."""
        word = self.token
        if not is_word(word):
            raise BadText(self.at)
        self.go_on()
        return word

    def take_integer(self):
        """Go behind the integer that must be the next token, and return it."""
        digits = self.token
        # Of all tokens, only integers end in a digit.
        if not digits[-1:].isdigit():
            raise BadText(self.at)
        self.go_on()
        return int(digits)

    def take_value(self):
        """Go behind the integer or quoted word that must be the next token, and return its value."""
        if not self.token.startswith('"'):
            return self.take_integer()
        word = self.token[1:-1]
        self.go_on()
        return word
