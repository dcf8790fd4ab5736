"""Compares the values that two decks emit for ever (point 9)."""

from deckwork.emission import Emission
from deckwork.machine import first_state
from deckwork.parser import parse_deck


def first_difference(first, second):
    """Return the tuple (number, value, value) of the first difference of the emitted values, or None."""
    left_deck = parse_deck(first)
    right_deck = parse_deck(second)
    left = Emission(left_deck, first_state(left_deck))
    right = Emission(right_deck, first_state(right_deck))
    # Values that repeat on both sides are equal for ever if they are so over the length of both periods together.
    enough = max(left.before, right.before) + left.again + right.again
    for number in range(enough):
        value = left.find_value(number)
        other = right.find_value(number)
        if value != other:
            return (number, value, other)
    return None


def are_equal(first, second):
    """Return whether two decks emit the same values for ever."""
    return first_difference(first, second) is None
