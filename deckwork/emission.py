"""All values that a deck emits, for ever."""

from deckwork.machine import act, list_states


class Emission:
    """The values that a short parsed deck emits from a state on: some first ones, and those of its cycle."""

    def __init__(self, deck, state):
        states, first = list_states(deck, state)
        steps = [act(deck, each)[1] for each in states]
        # The steps and values until the states repeat for the first time.
        self.places = [(step, value) for step, emitted in enumerate(steps) for value in emitted]
        # How many of these values come before the cycle, and how many belong to it.
        self.before = sum([len(emitted) for emitted in steps[:first]])
        self.again = len(self.places) - self.before
        self.cycle = len(states) - first

    def find_place(self, number):
        """Return the tuple (step, value) of the value with a number, or None if there is none."""
        if number < len(self.places):
            return self.places[number]
        if self.again == 0:
            return None
        rounds, rest = divmod(number - self.before, self.again)
        step, value = self.places[self.before + rest]
        return (step + rounds * self.cycle, value)

    def find_value(self, number):
        """Return the value with a number, or None if there is none."""
        place = self.find_place(number)
        return None if place is None else place[1]
