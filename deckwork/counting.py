"""Counts the values that decks emit and the steps in which cards act (point 7)."""

from deckwork.cards import EMIT_LETTER, EMIT_NUMBER
from deckwork.emission import Emission
from deckwork.machine import MOST_STEPS, SHORT_STEPS, act, check_card, check_count, choose_start, list_states
from deckwork.parser import parse_deck

MOST_LISTED = 500
MOST_VALUES = 10 ** 18


def count_emitted(deck, count, *, start=None):
    """Return how many values are emitted in a number of steps."""
    parsed = parse_deck(deck)
    check_count(count, MOST_STEPS)
    weights = {card.name: count_emits(card) for card in parsed.cards}
    return add_up(parsed, choose_start(parsed, start), count, weights)


def count_acts(deck, name, count, *, start=None):
    """Return how often a card acts in a number of steps."""
    parsed = parse_deck(deck)
    check_card(parsed, name)
    check_count(count, MOST_STEPS)
    weights = {other: 0 for other in parsed.names}
    weights[name] = 1
    return add_up(parsed, choose_start(parsed, start), count, weights)


def first_emitted(deck, number, *, start=None):
    """Return the list of the first values that are emitted, as many as given, or fewer if there are no more."""
    parsed = parse_deck(deck)
    check_count(number, MOST_LISTED)
    emission = Emission(parsed, choose_start(parsed, start))
    found = [emission.find_value(at) for at in range(number)]
    return [value for value in found if value is not None]


def nth_emitted(deck, number, *, start=None):
    """Return the tuple (step, value) of the value with a number, or None if there is none."""
    parsed = parse_deck(deck)
    check_count(number, MOST_VALUES)
    return Emission(parsed, choose_start(parsed, start)).find_place(number)


def idle_cards(deck, *, start=None):
    """Return the list of the names of the cards that never act."""
    parsed = parse_deck(deck)
    states, _ = list_states(parsed, choose_start(parsed, start))
    acting = {state[0][0] for state in states}
    return [name for name in parsed.names if name not in acting]


def count_emits(card):
    """Return how many values a card emits in a step."""
    return len([action for action in card.actions if action[0] in (EMIT_LETTER, EMIT_NUMBER)])


def add_up(deck, state, count, weights):
    """Return the sum of the weights of the cards that act in a number of steps; they are given by names."""
    if count > SHORT_STEPS:
        states, first = list_states(deck, state)
        rounds, rest = divmod(count - first, len(states) - first)
        steps = [weights[each[0][0]] for each in states]
        return sum(steps[:first + rest]) + rounds * sum(steps[first:])
    total = 0
    for _ in range(count):
        total += weights[state[0][0]]
        state = act(deck, state)[0]
    return total
