"""Sessions: a deck and the operations of a desk as a text (point 16)."""

from deckwork.desk import ARGUMENTS, Desk
from deckwork.errors import InvalidSession
from deckwork.formatter import format_deck
from deckwork.tokens import find_kind, is_number


def format_session(deck, operations):
    """Return the text of a session."""
    # Only what a desk can execute is written.
    Desk.replay(deck, operations)
    rows = format_deck(deck).split("\n")
    return "\n".join([f"deck {len(rows)}"] + rows + [write_operation(operation) for operation in operations])


def parse_session(text):
    """Return the tuple (deck, operations) of the text of a session."""
    if not isinstance(text, str):
        raise InvalidSession(0)
    rows = text.split("\n")
    many = read_size(rows)
    operations = [read_operation(row, place) for place, row in enumerate(rows) if place > many]
    deck = "\n".join(rows[1:many + 1])
    Desk.replay(deck, operations)
    return (deck, operations)


def write_operation(operation):
    """Return the line of an operation."""
    return " ".join([str(part) for part in operation])


def read_size(rows):
    """Return the number of the lines of the deck, which the first line gives."""
    words = rows[0].split(" ")
    if len(words) != 2 or words[0] != "deck" or not is_number(words[1]):
        raise InvalidSession(0)
    many = int(words[1])
    if not 1 <= many < len(rows):
        raise InvalidSession(0)
    return many


def read_operation(row, place):
    """Return the operation of a line, a tuple; its numbers are integers."""
    word, *rest = row.split(" ")
    if word not in ARGUMENTS or ARGUMENTS[word] != tuple([find_kind(part) for part in rest]):
        raise InvalidSession(place)
    return tuple([word] + [int(part) if is_number(part) else part for part in rest])
