"""Executes decks (points 5 and 6)."""

from deckwork.cards import ADD, COPY, EMIT_LETTER, PUT_LETTER, PUT_NUMBER, REGISTERS, SWAP
from deckwork.checks import is_state, is_within
from deckwork.errors import InvalidCount, InvalidState, TooLong, UnknownCard
from deckwork.parser import parse_deck

MOST_STEPS = 10 ** 18
MOST_TRACED = 500
SHORT_STEPS = 3000


def state_after(deck, count, *, start=None):
    """Return the state after a number of steps."""
    parsed = parse_deck(deck)
    check_count(count, MOST_STEPS)
    state = choose_start(parsed, start)
    if count > SHORT_STEPS:
        states, first = list_states(parsed, state)
        return states[first + (count - first) % (len(states) - first)]
    for _ in range(count):
        state = act(parsed, state)[0]
    return state


def trace(deck, count, *, start=None):
    """Yield the first steps: the name of the acting card, the values it emits, its depth."""
    parsed = parse_deck(deck)
    check_count(count, MOST_TRACED)
    state = choose_start(parsed, start)
    for _ in range(count):
        name = state[0][0]
        state, emitted, depth = act(parsed, state)
        yield (name, emitted, depth)


def find_cycle(deck, *, start=None):
    """Return the number of states before the first one that comes again, and the steps it takes."""
    parsed = parse_deck(deck)
    states, first = list_states(parsed, choose_start(parsed, start))
    return (first, len(states) - first)


def check_count(count, most):
    """Raise InvalidCount if a value is no number from 0 to the given one."""
    if not is_within(count, 0, most):
        raise InvalidCount(f"not an integer from 0 to {most}")


def choose_start(deck, start):
    """Return the state from which a parsed deck is executed."""
    if start is None:
        return first_state(deck)
    check_state(deck, start)
    return start


def check_state(deck, value):
    """Raise InvalidState if a value is no state of a parsed deck."""
    if not is_state(deck, value):
        raise InvalidState("not a state of the deck")


def check_card(deck, name):
    """Raise UnknownCard if a parsed deck has no card with this name."""
    # A name can be of any kind, and a list cannot be looked up in a dict.
    if name not in deck.names:
        raise UnknownCard("the deck has no card with this name")


def first_state(deck):
    """Return the state in which a parsed deck starts."""
    return (deck.names, (0,) * len(REGISTERS))


def list_states(deck, state):
    """Return the list of all states from one on, and the number of that which follows the last one."""
    states = []
    numbers = {}
    while state not in numbers:
        # This state and those before it are more different ones than a short deck has.
        if len(states) == SHORT_STEPS:
            raise TooLong(f"no state comes again within {SHORT_STEPS} steps")
        numbers[state] = len(states)
        states.append(state)
        state = act(deck, state)[0]
    return states, numbers[state]


def act(deck, state):
    """Execute a step; return the next state, the list of the emitted values and the depth of the card."""
    order, registers = state
    card = deck.by_name[order[0]]
    values, emitted = run_actions(card.actions, registers, deck.wrap)
    others = order[1:]
    depth = min(find_depth(card.put, values), len(others))
    order = others[:depth] + order[:1] + others[depth:]
    return (order, tuple(values)), emitted, depth


def run_actions(actions, registers, wrap):
    """Return the list of the values of the registers after some actions, and that of the emitted values."""
    values = list(registers)
    emitted = []
    for action in actions:
        kind = action[0]
        first = action[1]
        if kind == ADD:
            values[first] = (values[first] + action[2]) % wrap
        elif kind == COPY:
            values[first] = values[action[2]]
        elif kind == SWAP:
            second = action[2]
            values[first], values[second] = values[second], values[first]
        elif kind == EMIT_LETTER:
            emitted.append(values[first])
        else:
            emitted.append(first)
    return values, emitted


def find_depth(put, values):
    """Return the depth that a put determines, without regard to the number of cards."""
    if put[0] == PUT_NUMBER:
        return put[1]
    value = values[put[1]]
    if put[0] == PUT_LETTER:
        return value
    return put[2] if value == 0 else put[3]
