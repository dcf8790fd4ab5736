"""The canonical text of decks and the names of their cards (point 4)."""

from deckwork.cards import ADD, COPY, EMIT_LETTER, EMIT_NUMBER, PUT_LETTER, PUT_NUMBER, REGISTERS
from deckwork.parser import parse_deck


def format_deck(deck):
    """Return the canonical text of a deck."""
    return write_deck(parse_deck(deck))


def card_names(deck):
    """Return the list of the names of the cards."""
    return list(parse_deck(deck).names)


def write_deck(deck):
    """Return the canonical text of a parsed deck."""
    return "\n".join([f"wrap {deck.wrap};"] + [write_card(card) for card in deck.cards])


def write_card(card):
    """Return the line of a card."""
    put = write_put(card.put)
    if not card.actions:
        return f"{card.name}: -> {put};"
    actions = ", ".join([write_action(action) for action in card.actions])
    return f"{card.name}: {actions} -> {put};"


def write_action(action):
    """Return the text of an action."""
    kind = action[0]
    if kind == EMIT_NUMBER:
        return f"emit {action[1]}"
    letter = REGISTERS[action[1]]
    if kind == EMIT_LETTER:
        return f"emit {letter}"
    if kind == ADD:
        return f"add {letter} {action[2]}"
    if kind == COPY:
        return f"copy {letter} {REGISTERS[action[2]]}"
    return f"swap {letter} {REGISTERS[action[2]]}"


def write_put(put):
    """Return the text of a put."""
    kind = put[0]
    if kind == PUT_NUMBER:
        return f"{put[1]}"
    letter = REGISTERS[put[1]]
    if kind == PUT_LETTER:
        return letter
    return f"{letter} ? {put[2]} : {put[3]}"
