"""Finds the states that lead to a state (point 8)."""

from deckwork.cards import ADD, COPY, SWAP
from deckwork.machine import check_state, find_depth, list_states
from deckwork.parser import parse_deck


def predecessors(deck, state):
    """Return the list of all states from which one step leads to a state."""
    parsed = parse_deck(deck)
    check_state(parsed, state)
    found = []
    # For each card there is one order in which it was on top: so the states come in their order.
    for card in parsed.cards:
        found.extend(list_before(card, state, parsed.wrap))
    return found


def comes_again(deck, state):
    """Return whether a state comes again after one or more steps."""
    parsed = parse_deck(deck)
    check_state(parsed, state)
    return list_states(parsed, state)[1] == 0


def reaches(deck, first, second):
    """Return the least number of steps that lead from a state to a second one, or None."""
    parsed = parse_deck(deck)
    check_state(parsed, first)
    check_state(parsed, second)
    states = list_states(parsed, first)[0]
    return states.index(second) if second in states else None


def list_before(card, state, wrap):
    """Return the list of the states from which a step of a card leads to a state."""
    order, registers = state
    depth = order.index(card.name)
    # The put reads the registers after the actions, which are those of the state.
    if depth != min(find_depth(card.put, registers), len(order) - 1):
        return []
    known = undo_actions(card.actions, registers, wrap)
    if known is None:
        return []
    order = (card.name,) + order[:depth] + order[depth + 1:]
    choices = [list(range(wrap)) if value is None else [value] for value in known]
    return [(order, (p, q, r, s)) for p in choices[0] for q in choices[1] for r in choices[2] for s in choices[3]]


def undo_actions(actions, registers, wrap):
    """Return the list of the values before some actions, each None if any is possible; None if there are none."""
    known = list(registers)
    for action in reversed(actions):
        kind = action[0]
        first = action[1]
        if kind == ADD and known[first] is not None:
            known[first] = (known[first] - action[2]) % wrap
        elif kind == SWAP:
            second = action[2]
            known[first], known[second] = known[second], known[first]
        elif kind == COPY and first != action[2]:
            second = action[2]
            if known[second] is None:
                known[second] = known[first]
            elif known[first] is not None and known[first] != known[second]:
                return None
            # What the copy replaces can have been anything.
            known[first] = None
    return known
