"""A desk on which a deck is executed step by step (points 14 and 15)."""

from deckwork.cards import REGISTERS
from deckwork.checks import is_value
from deckwork.errors import DeckError, InvalidName, InvalidOperation, InvalidRegister, InvalidValue, UnknownName
from deckwork.machine import act, check_card, check_count, first_state
from deckwork.parser import parse_deck
from deckwork.tokens import is_word

MOST_AT_ONCE = 500

# The words of all operations with the kinds of their arguments.
ARGUMENTS = {
    "step": ("number",),
    "poke": ("letter", "number"),
    "lift": ("name", "number"),
    "reset": (),
    "undo": (),
    "redo": (),
}


class Desk:
    """Executes a deck step by step, with undo and snapshots."""

    def __init__(self, deck):
        self._deck = parse_deck(deck)
        # The operations in effect, and those that were undone, the last one of which is repeated first.
        self._done = []
        self._undone = []
        self._saved = {}

    @property
    def state(self):
        """Return the present state."""
        return self._done[-1].after if self._done else first_state(self._deck)

    @property
    def output(self):
        """Return the list of all values that were emitted since the beginning or the last reset."""
        values = []
        for event in self._done:
            if event.word == "reset":
                values = []
            values.extend(event.emitted)
        return values

    @property
    def steps_done(self):
        """Return the number of steps since the beginning or the last reset."""
        return self._done[-1].steps if self._done else 0

    @property
    def operations(self):
        """Return the list of the words of all operations in effect."""
        return [event.word for event in self._done]

    def step(self, count):
        """Execute a number of steps and return the list of the emitted values."""
        check_count(count, MOST_AT_ONCE)
        state = self.state
        values = []
        for _ in range(count):
            state, emitted, _ = act(self._deck, state)
            values.extend(emitted)
        self._add(Event("step", state, self.steps_done + count, tuple(values)))
        return values

    def poke(self, letter, value):
        """Give a register a value."""
        if letter not in REGISTERS:
            raise InvalidRegister("not the letter of a register")
        if not is_value(self._deck, value):
            raise InvalidValue("not a value of the deck")
        order, registers = self.state
        values = list(registers)
        values[REGISTERS.index(letter)] = value
        self._add(Event("poke", (order, tuple(values)), self.steps_done, ()))

    def lift(self, name, position):
        """Move a card to a position of the order and return the tuple of the names in their new order."""
        check_card(self._deck, name)
        check_count(position, len(self._deck.names) - 1)
        order, registers = self.state
        names = [other for other in order if other != name]
        names.insert(position, name)
        self._add(Event("lift", (tuple(names), registers), self.steps_done, ()))
        return tuple(names)

    def reset(self):
        """Return to the state in which the deck starts, without emitted values and steps."""
        self._add(Event("reset", first_state(self._deck), 0, ()))

    def undo(self):
        """Undo the last operation in effect and return whether there was one."""
        if not self._done:
            return False
        self._undone.append(self._done.pop())
        return True

    def redo(self):
        """Repeat the operation that was undone last and return whether there was one."""
        if not self._undone:
            return False
        self._done.append(self._undone.pop())
        return True

    def save(self, name):
        """Save the complete state under a name."""
        if not isinstance(name, str) or not is_word(name):
            raise InvalidName("not a name of one to eight letters a to z")
        self._saved[name] = (tuple(self._done), tuple(self._undone))

    def restore(self, name):
        """Restore the complete state that was saved under a name."""
        if not isinstance(name, str) or name not in self._saved:
            raise UnknownName("no snapshot has this name")
        done, undone = self._saved[name]
        self._done = list(done)
        self._undone = list(undone)

    def batch(self, operations):
        """Execute operations, all or none of them, and return the list of their results."""
        check_list(operations)
        for place, operation in enumerate(operations):
            check_operation(operation, place)
        done = list(self._done)
        undone = list(self._undone)
        try:
            return [execute(self, operation) for operation in operations]
        except DeckError:
            self._done = done
            self._undone = undone
            raise

    @classmethod
    def replay(cls, deck, operations):
        """Return a desk after operations; an entry that fails is reported like one that is malformed."""
        desk = cls(deck)
        check_list(operations)
        for place, operation in enumerate(operations):
            check_operation(operation, place)
            try:
                execute(desk, operation)
            except DeckError:
                raise InvalidOperation(place) from None
        return desk

    def _add(self, event):
        """Keep what an operation did; what was undone before cannot be repeated any more."""
        self._done.append(event)
        self._undone = []


class Event:
    """What an operation did: its word, the state and the number of steps after it, the emitted values."""

    def __init__(self, word, after, steps, emitted):
        self.word = word
        self.after = after
        self.steps = steps
        self.emitted = emitted


def check_list(operations):
    """Raise InvalidOperation if a value is no list."""
    if not isinstance(operations, list):
        raise InvalidOperation(0)


def check_operation(operation, place):
    """Raise InvalidOperation if an entry is no tuple of a word and the right number of arguments."""
    if not isinstance(operation, tuple) or not operation or not isinstance(operation[0], str):
        raise InvalidOperation(place)
    if operation[0] not in ARGUMENTS or len(ARGUMENTS[operation[0]]) != len(operation) - 1:
        raise InvalidOperation(place)


def execute(desk, operation):
    """Execute an operation that is not malformed on a desk and return its result."""
    match operation:
        case ["step", count]:
            return desk.step(count)
        case ["poke", letter, value]:
            return desk.poke(letter, value)
        case ["lift", name, position]:
            return desk.lift(name, position)
        case ["reset"]:
            return desk.reset()
        case ["undo"]:
            return desk.undo()
        case _:
            return desk.redo()
