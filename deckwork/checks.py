"""Tests of arguments, which may be of any kind (point 1)."""

from deckwork.cards import REGISTERS


def is_within(value, least, most):
    """Return whether a value is an integer within limits; True and False are none."""
    if isinstance(value, bool) or not isinstance(value, int):
        return False
    return least <= value <= most


def is_state(deck, value):
    """Return whether a value is a state of a parsed deck."""
    if not isinstance(value, tuple) or len(value) != 2:
        return False
    order, registers = value
    return is_order(deck, order) and are_registers(deck, registers)


def is_order(deck, value):
    """Return whether a value is a tuple of the names of all cards."""
    if not isinstance(value, tuple):
        return False
    # Values of different kinds cannot be sorted.
    if not all([isinstance(name, str) for name in value]):
        return False
    return sorted(value) == sorted(deck.names)


def are_registers(deck, value):
    """Return whether a value is a tuple of values of all registers."""
    if not isinstance(value, tuple) or len(value) != len(REGISTERS):
        return False
    return all([is_value(deck, number) for number in value])


def is_value(deck, value):
    """Return whether a value is one that a register can have."""
    return is_within(value, 0, deck.wrap - 1)
