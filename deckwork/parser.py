"""Parses and checks the text of a deck (points 2 and 3)."""

from deckwork.cards import ADD, COPY, EMIT_LETTER, EMIT_NUMBER, PUT_CHOICE, PUT_LETTER, PUT_NUMBER, REGISTERS, SWAP
from deckwork.cards import Card, Deck
from deckwork.errors import CheckFault, SyntaxFault
from deckwork.tokens import read_tokens

LEAST_WRAP = 2
MOST_WRAP = 16
MOST_CARDS = 8
MOST_ACTIONS = 6
MOST_DEPTH = 9


def parse_deck(text):
    """Return the Deck of a text; raise SyntaxFault or CheckFault."""
    if not isinstance(text, str):
        raise SyntaxFault(0, 0)
    parser = Parser(read_tokens(text))
    deck = parser.read_deck()
    # Syntax comes first: an error of point 3 counts only in a text that fits the grammar.
    if parser.fault is not None:
        reason, token = parser.fault
        raise CheckFault(reason, token.line, token.column)
    return deck


class Parser:
    """Reads the tokens of a deck in order and keeps the first error of point 3."""

    def __init__(self, tokens):
        self.tokens = tokens
        self.at = 0
        self.fault = None
        self.wrap = 0

    def sees(self, kind):
        """Return whether the next token is of a kind."""
        return self.tokens[self.at].kind == kind

    def take(self, *kinds):
        """Return the next token, which must be of one of the kinds, and pass it."""
        token = self.tokens[self.at]
        if token.kind not in kinds:
            raise SyntaxFault(token.line, token.column)
        self.at += 1
        return token

    def blame(self, reason, token):
        """Keep an error of point 3, if it is the first one."""
        if self.fault is None:
            self.fault = (reason, token)

    def read_deck(self):
        """Return the deck that all tokens together are."""
        self.take("wrap")
        self.wrap = self.read_number("wrap", LEAST_WRAP, MOST_WRAP)
        self.take(";")
        cards = [self.read_card([])]
        while not self.sees("end"):
            cards.append(self.read_card([card.name for card in cards]))
        return Deck(self.wrap, cards)

    def read_card(self, earlier):
        """Return the next card; `earlier` has the names of the cards before it."""
        name = self.take("name")
        if len(earlier) >= MOST_CARDS:
            self.blame("cards", name)
        if name.text in earlier:
            self.blame("duplicate", name)
        self.take(":")
        actions = []
        if not self.sees("->"):
            actions = self.read_actions()
        self.take("->")
        put = self.read_put()
        self.take(";")
        return Card(name.text, tuple(actions), put)

    def read_actions(self):
        """Return the list of one or more actions."""
        actions = [self.read_action()]
        while self.sees(","):
            self.take(",")
            if len(actions) >= MOST_ACTIONS:
                self.blame("actions", self.tokens[self.at])
            actions.append(self.read_action())
        return actions

    def read_action(self):
        """Return the next action, a tuple."""
        word = self.take("add", "copy", "swap", "emit").kind
        if word == "emit":
            if self.sees("letter"):
                return (EMIT_LETTER, self.read_letter())
            return (EMIT_NUMBER, self.read_value())
        first = self.read_letter()
        if word == "add":
            return (ADD, first, self.read_value())
        second = self.read_letter()
        if word == "copy":
            return (COPY, first, second)
        return (SWAP, first, second)

    def read_put(self):
        """Return the put, a tuple."""
        if not self.sees("letter"):
            return (PUT_NUMBER, self.read_depth())
        letter = self.read_letter()
        if not self.sees("?"):
            return (PUT_LETTER, letter)
        self.take("?")
        first = self.read_depth()
        self.take(":")
        return (PUT_CHOICE, letter, first, self.read_depth())

    def read_letter(self):
        """Return the number of the next register."""
        return REGISTERS.index(self.take("letter").text)

    def read_value(self):
        """Return the next number, which must be a value of registers."""
        return self.read_number("number", 0, self.wrap - 1)

    def read_depth(self):
        """Return the next number, which must be a depth of a put."""
        return self.read_number("number", 0, MOST_DEPTH)

    def read_number(self, reason, least, most):
        """Return the next number, which is blamed for the reason if it is beyond the limits."""
        token = self.take("number")
        number = int(token.text)
        if not least <= number <= most:
            self.blame(reason, token)
        return number
