"""Reads the tokens of a deck (point 2)."""

from deckwork.cards import REGISTERS
from deckwork.errors import SyntaxFault

LETTERS = "abcdefghijklmnopqrstuvwxyz"
DIGITS = "0123456789"
KEYWORDS = ("wrap", "add", "copy", "swap", "emit")
SIGNS = ("->", ":", ",", ";", "?")
LONGEST_WORD = 8
LONGEST_NUMBER = 3


class Token:
    """A token: keywords and signs are their own kind, the other kinds are name, letter, number, end."""

    def __init__(self, kind, text, line, column):
        self.kind = kind
        self.text = text
        self.line = line
        self.column = column


def read_tokens(text):
    """Return the tokens of a text, followed by one of the kind "end"."""
    rows = text.split("\n")
    tokens = []
    for line, row in enumerate(rows):
        tokens.extend(read_row(row, line))
    # A deck that ends too early is blamed on the line after its last one.
    tokens.append(Token("end", "", len(rows), 0))
    return tokens


def read_row(row, line):
    """Return the tokens of one line."""
    tokens = []
    column = 0
    while column < len(row):
        if row[column] == " ":
            column += 1
            continue
        end = find_end(row, column)
        text = row[column:end]
        kind = find_kind(text)
        if kind is None:
            raise SyntaxFault(line, column)
        tokens.append(Token(kind, text, line, column))
        column = end
    return tokens


def find_end(row, column):
    """Return the column behind the word, the number or the sign that begins at a column."""
    if row[column] in LETTERS:
        return skip(row, column, LETTERS)
    if row[column] in DIGITS:
        return skip(row, column, DIGITS)
    if row[column:column + 2] == "->":
        return column + 2
    return column + 1


def skip(row, column, characters):
    """Return the first column from the given one on that has none of the characters."""
    while column < len(row) and row[column] in characters:
        column += 1
    return column


def find_kind(text):
    """Return the kind of a token, or None if the text is not one."""
    if text in KEYWORDS or text in SIGNS:
        return text
    if text in REGISTERS:
        return "letter"
    if is_word(text):
        return "name"
    if is_number(text):
        return "number"
    return None


def is_word(text):
    """Return whether a text has one to eight letters a to z; keywords and registers have them, too."""
    return 1 <= len(text) <= LONGEST_WORD and skip(text, 0, LETTERS) == len(text)


def is_number(text):
    """Return whether a text has one to three digits and no leading zeros."""
    if not 1 <= len(text) <= LONGEST_NUMBER or skip(text, 0, DIGITS) < len(text):
        return False
    return text == "0" or text[0] != "0"
