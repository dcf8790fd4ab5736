"""Decks as lists of bytes (points 11 and 12)."""

from deckwork.cards import ADD, EMIT_LETTER, EMIT_NUMBER, PUT_CHOICE, PUT_LETTER, PUT_NUMBER, REGISTERS, Card, Deck
from deckwork.checks import is_within
from deckwork.errors import InvalidCode
from deckwork.formatter import write_deck
from deckwork.parser import LEAST_WRAP, MOST_ACTIONS, MOST_CARDS, MOST_DEPTH, MOST_WRAP, parse_deck
from deckwork.tokens import LETTERS, LONGEST_WORD, find_kind

MARK = 68
BYTES = 256


def encode(deck):
    """Return the list of the bytes of a deck."""
    parsed = parse_deck(deck)
    code = [MARK, parsed.wrap, len(parsed.cards)]
    for card in parsed.cards:
        code.extend(encode_card(card))
    return code + [find_checksum(code)]


def decode(code):
    """Return the canonical text of a list of bytes."""
    if not isinstance(code, list):
        raise InvalidCode(0)
    text = write_deck(Reader(code).take_deck())
    # Names that occur twice are found only here.
    parse_deck(text)
    return text


def encode_card(card):
    """Return the list of the bytes of a card."""
    code = [len(card.name)] + [LETTERS.index(letter) for letter in card.name]
    code.append(len(card.actions))
    for action in card.actions:
        code.extend(action)
    return code + list(card.put)


def find_checksum(code):
    """Return the byte that follows all others."""
    return sum(code) % BYTES


class Reader:
    """Reads a list in order, whose members need not be bytes."""

    def __init__(self, code):
        self.code = code
        self.at = 0

    def take_byte(self, least, most):
        """Return the next byte, which must be within limits, and pass it."""
        if self.at == len(self.code) or not is_within(self.code[self.at], least, most):
            raise InvalidCode(self.at)
        self.at += 1
        return self.code[self.at - 1]

    def take_deck(self):
        """Return the deck that all bytes together are; names can occur twice in it."""
        self.take_byte(MARK, MARK)
        wrap = self.take_byte(LEAST_WRAP, MOST_WRAP)
        many = self.take_byte(1, MOST_CARDS)
        cards = [self.take_card(wrap) for _ in range(many)]
        checksum = find_checksum(self.code[:self.at])
        self.take_byte(checksum, checksum)
        if self.at < len(self.code):
            raise InvalidCode(self.at)
        return Deck(wrap, cards)

    def take_card(self, wrap):
        """Return the next card of a deck with a number after `wrap`."""
        name = self.take_name()
        many = self.take_byte(0, MOST_ACTIONS)
        actions = [self.take_action(wrap) for _ in range(many)]
        return Card(name, tuple(actions), self.take_put())

    def take_name(self):
        """Return the next word, which must be a name."""
        place = self.at
        many = self.take_byte(1, LONGEST_WORD)
        name = "".join([LETTERS[self.take_byte(0, len(LETTERS) - 1)] for _ in range(many)])
        # No single letter of a keyword or a register is wrong, so its length is blamed.
        if find_kind(name) != "name":
            raise InvalidCode(place)
        return name

    def take_action(self, wrap):
        """Return the next action, a tuple."""
        kind = self.take_byte(ADD, EMIT_NUMBER)
        if kind == EMIT_NUMBER:
            return (kind, self.take_byte(0, wrap - 1))
        letter = self.take_letter()
        if kind == EMIT_LETTER:
            return (kind, letter)
        if kind == ADD:
            return (kind, letter, self.take_byte(0, wrap - 1))
        return (kind, letter, self.take_letter())

    def take_put(self):
        """Return the put, a tuple."""
        kind = self.take_byte(PUT_NUMBER, PUT_CHOICE)
        if kind == PUT_NUMBER:
            return (kind, self.take_depth())
        letter = self.take_letter()
        if kind == PUT_LETTER:
            return (kind, letter)
        first = self.take_depth()
        return (kind, letter, first, self.take_depth())

    def take_letter(self):
        """Return the number of the next register."""
        return self.take_byte(0, len(REGISTERS) - 1)

    def take_depth(self):
        """Return the next number of a put."""
        return self.take_byte(0, MOST_DEPTH)
