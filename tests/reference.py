"""A second machine for the tests, written apart from the package.

It reads canonical-like text by regular expressions and moves cards in lists.
"""

import random
import re


def read_deck(text):
    """Return (wrap, {name: (actions, put)}) with actions and puts as lists of words."""
    head, *lines = [part.strip() for part in text.split(";")][:-1]
    cards = {}
    for line in lines:
        name, rest = line.split(":", 1)
        body, put = rest.split("->")
        actions = [action.split() for action in body.split(",") if action.strip()]
        cards[name.strip()] = (actions, re.findall(r"[a-z]|\d+", put))
    return int(head.split()[1]), cards


def make_step(deck, state):
    """Return (next state, name, emitted values, depth)."""
    wrap, cards = deck
    pile, memory = list(state[0]), dict(zip("pqrs", state[1]))
    name = pile.pop(0)
    actions, put = cards[name]
    emitted = []
    for word, *rest in actions:
        if word == "emit":
            emitted.append(memory[rest[0]] if rest[0] in memory else int(rest[0]))
        elif word == "add":
            memory[rest[0]] = (memory[rest[0]] + int(rest[1])) % wrap
        elif word == "copy":
            memory[rest[0]] = memory[rest[1]]
        else:
            memory[rest[0]], memory[rest[1]] = memory[rest[1]], memory[rest[0]]
    if len(put) == 3:
        depth = int(put[1] if memory[put[0]] == 0 else put[2])
    else:
        depth = memory[put[0]] if put[0] in memory else int(put[0])
    depth = min(depth, len(pile))
    pile.insert(depth, name)
    return (tuple(pile), tuple(memory[letter] for letter in "pqrs")), name, emitted, depth


def first_state(deck):
    """Return the state in which a deck starts."""
    return tuple(deck[1]), (0, 0, 0, 0)


def run(text, count, state=None):
    """Return the state after a number of steps, made one by one, and the steps."""
    deck = read_deck(text)
    state = first_state(deck) if state is None else state
    steps = []
    for _ in range(count):
        state, *step = make_step(deck, state)
        steps.append(tuple(step))
    return state, steps


def find_cycle(text, state=None, limit=3000):
    """Return (states before the cycle, states in it), or None beyond the limit."""
    deck = read_deck(text)
    state = first_state(deck) if state is None else state
    seen = [state]
    places = {state: 0}
    while len(seen) <= limit:
        state = make_step(deck, state)[0]
        if state in places:
            return places[state], len(seen) - places[state]
        places[state] = len(seen)
        seen.append(state)
    return None


def make_deck(seed):
    """Return the canonical text of some deck; the same seed gives the same deck."""
    rng = random.Random(seed)
    wrap = rng.choice([2, 3, 4, 5, 7, 16])
    many = rng.randint(1, 8)
    lines = [f"wrap {wrap};"]
    for name in rng.sample(["a", "b", "card", "x", "wraps", "pp", "adder", "zzzzzzzz"], many):
        actions = ", ".join(make_action(rng, wrap) for _ in range(rng.choice([0, 1, 2, 6])))
        lines.append(f"{name}: {actions}{' ' if actions else ''}-> {make_put(rng)};")
    return "\n".join(lines)


def make_action(rng, wrap):
    """Return the text of an action."""
    one, two = rng.choice("pqrs"), rng.choice("pqrs")
    number = rng.randrange(wrap)
    return rng.choice([f"add {one} {number}", f"copy {one} {two}", f"swap {one} {two}",
                       f"emit {one}", f"emit {number}"])


def make_put(rng):
    """Return the text of a put."""
    letter = rng.choice("pqrs")
    return rng.choice([f"{rng.randrange(10)}", letter,
                       f"{letter} ? {rng.randrange(10)} : {rng.randrange(10)}"])
