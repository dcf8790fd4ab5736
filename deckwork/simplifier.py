"""Simplifies decks (point 10) and measures them (point 4)."""

from deckwork.cards import ADD, COPY, PUT_CHOICE, PUT_LETTER, PUT_NUMBER, SWAP, Card, Deck
from deckwork.formatter import write_deck
from deckwork.parser import parse_deck


def simplify(deck):
    """Return the canonical text of a simpler deck that does the same."""
    parsed = parse_deck(deck)
    deepest = len(parsed.cards) - 1
    cards = [simplify_card(card, parsed.wrap, deepest) for card in parsed.cards]
    return write_deck(Deck(parsed.wrap, cards))


def measure(deck):
    """Return the number of actions of all cards."""
    return sum([len(card.actions) for card in parse_deck(deck).cards])


def simplify_card(card, wrap, deepest):
    """Return a simpler card that does the same in a deck with the given greatest depth."""
    return Card(card.name, simplify_actions(card.actions, wrap), simplify_put(card.put, deepest))


def simplify_actions(actions, wrap):
    """Return a tuple of actions that do the same, none and no two in a row of which can be simplified."""
    kept = []
    waiting = list(reversed(actions))
    while waiting:
        action = sort_swap(waiting.pop())
        if does_nothing(action):
            continue
        merged = merge(kept[-1], action, wrap) if kept else None
        if merged is None:
            kept.append(action)
            continue
        # What remains of both may be simplified further, with what now stands before it.
        kept.pop()
        waiting.extend(merged)
    return tuple(kept)


def sort_swap(action):
    """Return an action, a swap with its registers in their order."""
    if action[0] == SWAP and action[1] > action[2]:
        return (SWAP, action[2], action[1])
    return action


def does_nothing(action):
    """Return whether an action never has an effect."""
    if action[0] == ADD:
        return action[2] == 0
    return action[0] in (COPY, SWAP) and action[1] == action[2]


def merge(first, second, wrap):
    """Return the list of at most one action that does the same as two in a row, or None if both are needed."""
    kinds = (first[0], second[0])
    if kinds == (ADD, ADD) and first[1] == second[1]:
        return [(ADD, first[1], (first[2] + second[2]) % wrap)]
    if kinds == (SWAP, SWAP) and first == second:
        return []
    if kinds == (COPY, COPY) and first[1:] == (second[2], second[1]):
        return [first]
    # The copy replaces what the first action has made of the register.
    if kinds in ((ADD, COPY), (COPY, COPY)) and first[1] == second[1]:
        return [second]
    return None


def simplify_put(put, deepest):
    """Return a simpler put that gives the same depths, none of them greater than the given one."""
    if put[0] == PUT_NUMBER:
        return (PUT_NUMBER, min(put[1], deepest))
    if deepest == 0:
        return (PUT_NUMBER, 0)
    if put[0] == PUT_LETTER:
        return put
    first = min(put[2], deepest)
    second = min(put[3], deepest)
    if first == second:
        return (PUT_NUMBER, first)
    return (PUT_CHOICE, put[1], first, second)
