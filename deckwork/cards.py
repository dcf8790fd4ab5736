"""A deck after parsing: its cards, their actions and their puts.

Actions and puts are tuples that begin with one of the kinds below; registers
are numbered from 0. The tuples are the bytes of the actions and puts, too
(point 11), so the numbers of the kinds are fixed.
"""

REGISTERS = ("p", "q", "r", "s")

# (ADD, register, number), (COPY, register, register), (SWAP, register, register)
ADD = 0
COPY = 1
SWAP = 2
# (EMIT_LETTER, register), (EMIT_NUMBER, number)
EMIT_LETTER = 3
EMIT_NUMBER = 4

# (PUT_NUMBER, number), (PUT_LETTER, register), (PUT_CHOICE, register, number, number)
PUT_NUMBER = 0
PUT_LETTER = 1
PUT_CHOICE = 2


class Card:
    """A card with its name, its tuple of actions and its put."""

    def __init__(self, name, actions, put):
        self.name = name
        self.actions = actions
        self.put = put


class Deck:
    """A deck with the number after `wrap` and its list of cards."""

    def __init__(self, wrap, cards):
        self.wrap = wrap
        self.cards = cards
        self.names = tuple([card.name for card in cards])
        self.by_name = {card.name: card for card in cards}
