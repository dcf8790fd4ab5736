"""Tests of deckwork.backward (points 1 and 8)."""

import itertools
import random
import unittest

from deckwork.backward import comes_again, predecessors, reaches
from deckwork.errors import CheckFault, InvalidState, SyntaxFault, TooLong
from tests import reference
from tests.test_machine import DECK, LONG, NO_STATES, TAIL, ZERO

NO_STATES = NO_STATES + (None,)
ABC = ("a", "b", "c")


def all_states(deck):
    """Return all states of a deck in their order."""
    wrap, cards = reference.read_deck(deck)
    return [(order, values) for order in itertools.permutations(cards)
            for values in itertools.product(range(wrap), repeat=4)]


def try_all_states(deck):
    """Return {state: list of all states from which one step leads to it}."""
    parsed = reference.read_deck(deck)
    found = {state: [] for state in all_states(deck)}
    for state in found:
        found[reference.make_step(parsed, state)[0]].append(state)
    return found


def make_small_deck(seed):
    """Return a deck with so few states that all can be tried."""
    rng = random.Random(seed)
    wrap = rng.choice([2, 3])
    lines = [f"wrap {wrap};"]
    for name in rng.sample(["z", "b", "card"], rng.randint(1, 3)):
        actions = ", ".join(reference.make_action(rng, wrap) for _ in range(rng.randint(0, 6)))
        lines.append(f"{name}: {actions} -> {reference.make_put(rng)};")
    return "\n".join(lines)


class PredecessorsTest(unittest.TestCase):
    def test_example(self):
        self.assertEqual(predecessors(DECK, (ABC, (1, 1, 0, 0))),
                         [(("b", "a", "c"), (1, 0, 0, 0)), (("b", "a", "c"), (1, 1, 0, 0)),
                          (("b", "a", "c"), (1, 2, 0, 0)), (("c", "a", "b"), (1, 1, 0, 0))])

    def test_none(self):
        self.assertEqual(predecessors("wrap 2; a: -> 0; b: -> 0;", (("a", "b"), ZERO)), [(("a", "b"), ZERO)])
        self.assertEqual(predecessors("wrap 2; a: -> 1; b: -> 0;", (("a", "b"), ZERO)), [])
        self.assertEqual(predecessors("wrap 3; a: copy p q -> 0;", (("a",), (1, 2, 0, 0))), [])
        self.assertEqual(predecessors("wrap 3; a: copy p q, add p 1, copy q p -> 0;", (("a",), (1, 2, 0, 0))), [])

    def test_one_for_each_action(self):
        for actions, before in (("", (1, 2, 3, 4)), ("add p 3", (3, 2, 3, 4)), ("add s 4", (1, 2, 3, 0)),
                                ("swap q s", (1, 4, 3, 2)), ("swap s q", (1, 4, 3, 2)), ("swap p p", (1, 2, 3, 4)),
                                ("copy r r", (1, 2, 3, 4)), ("emit p, emit 4", (1, 2, 3, 4)),
                                ("add p 1, swap p q, add p 1", (1, 0, 3, 4))):
            with self.subTest(actions=actions):
                self.assertEqual(predecessors(f"wrap 5; a: {actions} -> 0;", (("a",), (1, 2, 3, 4))),
                                 [(("a",), before)])

    def test_what_a_copy_replaces(self):
        self.assertEqual(predecessors("wrap 3; a: copy p q -> 0;", (("a",), (2, 2, 0, 1))),
                         [(("a",), (0, 2, 0, 1)), (("a",), (1, 2, 0, 1)), (("a",), (2, 2, 0, 1))])
        self.assertEqual(predecessors("wrap 2; a: copy p q, copy q r -> 0;", (("a",), (0, 1, 1, 0))),
                         [(("a",), (0, 0, 1, 0)), (("a",), (1, 0, 1, 0))])

    def test_as_many_as_possible(self):
        deck = "wrap 16; a: copy q p, copy r p, copy s p -> 0;"
        found = predecessors(deck, (("a",), (7, 7, 7, 7)))
        self.assertEqual(found, [(("a",), (7, q, r, s)) for q in range(16) for r in range(16) for s in range(16)])

    def test_order_of_the_cards_in_the_text(self):
        deck = "wrap 2; z: -> 0; a: -> 1; m: -> 2;"
        self.assertEqual(predecessors(deck, (("z", "a", "m"), ZERO)),
                         [(("z", "a", "m"), ZERO), (("a", "z", "m"), ZERO), (("m", "z", "a"), ZERO)])

    def test_puts(self):
        deck = "wrap 4; a: -> p; b: -> q ? 1 : 9; c: -> 9;"
        for order in itertools.permutations(ABC):
            for values in ((0, 0, 0, 0), (1, 1, 0, 0), (2, 0, 3, 3), (3, 2, 1, 0)):
                state = (order, values)
                with self.subTest(state=state):
                    expected = [before for before in itertools.permutations(ABC)
                                if reference.make_step(reference.read_deck(deck), (before, values))[0] == state]
                    self.assertEqual(predecessors(deck, state), [(before, values) for before in expected])

    def test_the_put_reads_the_registers_after_the_actions(self):
        deck = "wrap 3; a: add p 1 -> p; b: -> 0;"
        self.assertEqual(predecessors(deck, (("a", "b"), ZERO)), [(("a", "b"), (2, 0, 0, 0))])
        self.assertEqual(predecessors(deck, (("a", "b"), (1, 0, 0, 0))), [])

    def test_against_all_states(self):
        several = none = 0
        for seed in range(60):
            deck = make_small_deck(seed)
            for state, expected in try_all_states(deck).items():
                several += len(expected) > 1
                none += not expected
                self.assertEqual(predecessors(deck, state), expected, (deck, state))
        self.assertGreater(several, 1000)
        self.assertGreater(none, 1000)

    def test_steps_of_larger_decks(self):
        for seed in range(100):
            deck = reference.make_deck(seed)
            parsed = reference.read_deck(deck)
            numbers = {name: number for number, name in enumerate(parsed[1])}
            before = reference.run(deck, 5)[0]
            state = reference.make_step(parsed, before)[0]
            with self.subTest(deck=deck):
                found = predecessors(deck, state)
                self.assertIn(before, found)
                keys = [([numbers[name] for name in order], values) for order, values in found]
                self.assertEqual(keys, sorted(keys))
                self.assertEqual(len(found), len(set(found)))
                for each in found[:50]:
                    self.assertEqual(reference.make_step(parsed, each)[0], state)

    def test_a_new_list_for_each_call(self):
        deck = "wrap 2; a: -> 0;"
        found = predecessors(deck, (("a",), ZERO))
        self.assertIs(type(found), list)
        found.append(None)
        self.assertEqual(predecessors(deck, (("a",), ZERO)), [(("a",), ZERO)])

    def test_decks_that_are_not_short(self):
        for deck in (LONG, TAIL):
            before, state = reference.run(deck, 4000)[0], reference.run(deck, 4001)[0]
            self.assertIn(before, predecessors(deck, state))

    def test_invalid_states(self):
        for state in NO_STATES:
            with self.subTest(state=state), self.assertRaises(InvalidState):
                predecessors(DECK, state)

    def test_order_of_the_errors(self):
        with self.assertRaises(SyntaxFault):
            predecessors("wrap 1; a: -> 0", None)
        with self.assertRaises(CheckFault):
            predecessors("wrap 1; a: -> 0;", None)


class ComesAgainTest(unittest.TestCase):
    def test_example(self):
        self.assertIs(comes_again(DECK, (("c", "a", "b"), ZERO)), True)

    def test_before_and_on_the_cycle(self):
        for count in range(10):
            state = reference.run(DECK, count)[0]
            with self.subTest(count=count):
                self.assertIs(comes_again(DECK, state), count >= 5)

    def test_cycles_of_several_states(self):
        self.assertIs(comes_again("wrap 7; a: add p 2 -> 0;", (("a",), (3, 1, 0, 0))), True)
        self.assertIs(comes_again("wrap 7; a: copy p q -> 0;", (("a",), (3, 1, 0, 0))), False)
        self.assertIs(comes_again("wrap 7; a: copy p q -> 0;", (("a",), (1, 1, 0, 0))), True)

    def test_against_all_states(self):
        for seed in range(20):
            deck = make_small_deck(seed)
            for state in all_states(deck)[::7]:
                cycle = reference.find_cycle(deck, state)
                with self.subTest(deck=deck, state=state):
                    self.assertIs(comes_again(deck, state), cycle[0] == 0)

    def test_around_the_limit_of_short_decks(self):
        self.assertIs(comes_again(LONG, reference.run(LONG, 1278)[0]), False)
        self.assertIs(comes_again(LONG, reference.run(LONG, 1313)[0]), False)
        self.assertIs(comes_again(LONG, reference.run(LONG, 1314)[0]), True)
        self.assertIs(comes_again(TAIL, reference.run(TAIL, 1634)[0]), False)
        self.assertIs(comes_again(TAIL, reference.run(TAIL, 4632)[0]), True)

    def test_too_long_from_this_state(self):
        for deck, count in ((LONG, 0), (LONG, 1277), (TAIL, 0), (TAIL, 1633)):
            with self.subTest(deck=deck, count=count), self.assertRaises(TooLong):
                comes_again(deck, reference.run(deck, count)[0])

    def test_invalid_states(self):
        for state in NO_STATES:
            for deck in (DECK, LONG):
                with self.subTest(deck=deck, state=state), self.assertRaises(InvalidState):
                    comes_again(deck, state)

    def test_order_of_the_errors(self):
        with self.assertRaises(SyntaxFault):
            comes_again("wrap 1; a: -> 0", None)
        with self.assertRaises(CheckFault):
            comes_again("wrap 1; a: -> 0;", None)
        with self.assertRaises(InvalidState):
            comes_again(LONG, None)


class ReachesTest(unittest.TestCase):
    def test_example(self):
        self.assertEqual(reaches(DECK, (ABC, ZERO), (ABC, (1, 1, 0, 0))), 2)

    def test_from_a_state_to_itself(self):
        for count in (0, 3, 5, 6):
            state = reference.run(DECK, count)[0]
            self.assertEqual(reaches(DECK, state, state), 0)
        wheel = "wrap 7; a: add p 1 -> 0;"
        self.assertEqual(reaches(wheel, (("a",), (3, 0, 0, 0)), (("a",), (3, 0, 0, 0))), 0)

    def test_along_the_way(self):
        first = (ABC, ZERO)
        for count in range(6):
            self.assertEqual(reaches(DECK, first, reference.run(DECK, count)[0]), count)
        # The sixth state is the whole cycle.
        self.assertEqual(reaches(DECK, first, reference.run(DECK, 1000)[0]), 5)

    def test_on_a_cycle(self):
        wheel = "wrap 7; a: add p 1 -> 0;"
        for start in range(7):
            for end in range(7):
                self.assertEqual(reaches(wheel, (("a",), (start, 0, 0, 0)), (("a",), (end, 0, 0, 0))), (end - start) % 7)

    def test_to_a_state_before_it(self):
        for count in range(1, 6):
            self.assertIsNone(reaches(DECK, reference.run(DECK, count)[0], (ABC, ZERO)))

    def test_never(self):
        self.assertIsNone(reaches(DECK, (ABC, ZERO), (ABC, (0, 0, 0, 1))))
        self.assertIsNone(reaches("wrap 7; a: add p 1 -> 0;", (("a",), ZERO), (("a",), (0, 1, 0, 0))))

    def test_against_all_states(self):
        for seed in range(12):
            deck = make_small_deck(seed)
            parsed = reference.read_deck(deck)
            states = all_states(deck)
            for first in states[::41]:
                steps, state = {}, first
                while state not in steps:
                    steps[state] = len(steps)
                    state = reference.make_step(parsed, state)[0]
                for second in states[::13]:
                    self.assertEqual(reaches(deck, first, second), steps.get(second), (deck, first, second))

    def test_too_long_from_the_first_one(self):
        late = reference.run(LONG, 1278)[0]
        early = reference.run(LONG, 1277)[0]
        for first, second in ((early, early), (early, late)):
            with self.assertRaises(TooLong):
                reaches(LONG, first, second)
        self.assertEqual(reaches(LONG, late, reference.run(LONG, 1278 + 2999)[0]), 2999)
        self.assertEqual(reaches(LONG, late, reference.run(LONG, 1278 + 3000)[0]), 36)
        self.assertIsNone(reaches(LONG, late, early))

    def test_invalid_states(self):
        for state in NO_STATES:
            with self.subTest(state=state):
                with self.assertRaises(InvalidState):
                    reaches(DECK, state, (ABC, ZERO))
                with self.assertRaises(InvalidState):
                    reaches(DECK, (ABC, ZERO), state)
                with self.assertRaises(InvalidState):
                    reaches(DECK, state, state)

    def test_order_of_the_errors(self):
        with self.assertRaises(SyntaxFault):
            reaches("wrap 1; a: -> 0", None, None)
        with self.assertRaises(CheckFault):
            reaches("wrap 1; a: -> 0;", None, None)
        with self.assertRaises(InvalidState):
            reaches(LONG, (("a", "b", "c", "d"), ZERO), None)
        with self.assertRaises(InvalidState):
            reaches(LONG, None, (("a", "b", "c", "d"), ZERO))

    def test_a_list_is_not_modified(self):
        for call in (predecessors, comes_again, lambda deck, state: reaches(deck, (ABC, ZERO), state)):
            state = [ABC, ZERO]
            with self.assertRaises(InvalidState):
                call(DECK, state)
            self.assertEqual(state, [ABC, ZERO])


if __name__ == "__main__":
    unittest.main()
