"""Finds what can be concluded about the hidden order of a deck (point 13)."""

from itertools import permutations

from deckwork.checks import is_value
from deckwork.emission import Emission
from deckwork.errors import Contradiction, InvalidValue, InvalidValues, TooManyOrders
from deckwork.machine import check_card, check_count, first_state
from deckwork.parser import parse_deck

MOST_HIDDEN = 5
MOST_GIVEN = 100


def find_orders(deck, values):
    """Return the list of all orders from which a deck emits given values first."""
    parsed = parse_hidden(deck)
    if not are_values(parsed, values):
        raise InvalidValues(f"not a list of at most {MOST_GIVEN} values of the deck")
    return [candidate.order for candidate in list_candidates(parsed) if candidate.emits_first(values)]


class Watcher:
    """Watches a deck in a hidden order and keeps the orders that agree with all observations."""

    def __init__(self, deck):
        self._deck = parse_hidden(deck)
        self._left = list_candidates(self._deck)
        self._seen = []
        # The number of the value that is observed next.
        self._number = 0

    def see_value(self, value):
        """Observe the next value, None if there is none; return the number of candidates."""
        return self.see_values(value)

    def see_values(self, *values):
        """Observe the next values, all or none of them; return the number of candidates."""
        left = self._left
        number = self._number
        for value in values:
            if value is not None and not is_value(self._deck, value):
                raise InvalidValue("not a value of the deck and not None")
            left = [candidate for candidate in left if candidate.emission.find_value(number) == value]
            check_left(left)
            number += 1
        self._left = left
        self._number = number
        self._seen.extend([("value", value) for value in values])
        return len(left)

    def see_card(self, position, name):
        """Observe a card at a position of the order at the start; return the number of candidates."""
        check_count(position, len(self._deck.names) - 1)
        check_card(self._deck, name)
        left = [candidate for candidate in self._left if candidate.order[position] == name]
        check_left(left)
        self._left = left
        self._seen.append(("card", position, name))
        return len(left)

    def candidates(self):
        """Return the list of all orders that agree with the observations."""
        return [candidate.order for candidate in self._left]

    def next_values(self):
        """Return the list of all values that can be emitted next; None comes last."""
        values = [candidate.emission.find_value(self._number) for candidate in self._left]
        found = sorted({value for value in values if value is not None})
        return found + [None] if None in values else found

    def known_cards(self):
        """Return the tuple of the names of the cards at all positions, None if they are not known."""
        columns = list_columns(self.candidates())
        return tuple([None if len(set(column)) > 1 else column[0] for column in columns])

    def best_position(self):
        """Return the first position whose card leaves the fewest candidates in the worst case."""
        worst = [count_most(column) for column in list_columns(self.candidates())]
        return worst.index(min(worst))

    def history(self):
        """Return the list of all accepted observations."""
        return list(self._seen)


class Candidate:
    """An order and all values that a parsed deck emits from it."""

    def __init__(self, deck, order):
        self.order = order
        self.emission = Emission(deck, (order, first_state(deck)[1]))

    def emits_first(self, values):
        """Return whether these values are emitted first."""
        return all([self.emission.find_value(number) == value for number, value in enumerate(values)])


def parse_hidden(deck):
    """Return the Deck of a text, which must have few enough cards for a hidden order."""
    parsed = parse_deck(deck)
    if len(parsed.cards) > MOST_HIDDEN:
        raise TooManyOrders(f"more than {MOST_HIDDEN} cards")
    return parsed


def are_values(deck, values):
    """Return whether a value is a list of not too many values that registers can have."""
    if not isinstance(values, list) or len(values) > MOST_GIVEN:
        return False
    return all([is_value(deck, value) for value in values])


def list_candidates(deck):
    """Return the list of the candidates for all orders of a parsed deck."""
    return [Candidate(deck, order) for order in permutations(list(deck.names))]


def check_left(left):
    """Raise Contradiction if no candidates are left."""
    if not left:
        raise Contradiction("no order agrees with all observations")


def list_columns(orders):
    """Return for each position the list of the names that the orders have there."""
    return [[order[at] for order in orders] for at in range(len(orders[0]))]


def count_most(names):
    """Return how often the most frequent name occurs."""
    return max([names.count(name) for name in names])
