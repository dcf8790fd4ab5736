"""Tests of deckwork.machine (points 5 and 6)."""

import inspect
import unittest

from deckwork.errors import CheckFault, InvalidCount, InvalidState, SyntaxFault, TooLong
from deckwork.machine import find_cycle, state_after, trace
from tests import reference

DECK = "wrap 3; a: add p 1, emit p -> 1; b: copy q p -> q; c: -> p ? 0 : 2;"
ZERO = (0, 0, 0, 0)
# 1,314 states stand before its cycle of 2,964.
LONG = ("wrap 13; a: emit s, swap p r, copy s s -> 3; b: copy q q, add r 12 -> r ? 2 : 3; "
        "c: emit s, swap q s -> 4; d: add q 6, emit s, add s 12 -> 2;")
# 4,632 states stand before its cycle of 2.
TAIL = ("wrap 16; a: swap p r, add r 12 -> p ? 2 : 3; b: swap r s, add q 11 -> 2; "
        "c: swap r q, swap q r, emit r -> 4; d: swap p q, copy q q, swap s r -> p ? 0 : 3;")
NO_COUNTS = (None, True, False, "", "1", "3", (), (1,), [], [1], -1, -10 ** 18)
NO_STATES = (
    False, True, 0, 1, "", "abc", (), [], [None],
    ("a", "b", "c"),
    (("a", "b", "c"),),
    (("a", "b", "c"), ZERO, ZERO),
    [("a", "b", "c"), ZERO],
    (["a", "b", "c"], ZERO),
    (("a", "b", "c"), [0, 0, 0, 0]),
    ("abc", ZERO),
    (("a", "b", "c"), "0000"),
    (None, ZERO),
    (("a", "b", "c"), None),
    (("a", "b"), ZERO),
    (("a", "b", "c", "c"), ZERO),
    (("a", "b", "b"), ZERO),
    (("a", "b", "d"), ZERO),
    (("a", "b", None), ZERO),
    (("a", "b", 1), ZERO),
    (("a", "b", ("c",)), ZERO),
    (("a", "b", ["c"]), ZERO),
    (("a", "b", "c"), (0, 0, 0)),
    (("a", "b", "c"), (0, 0, 0, 0, 0)),
    (("a", "b", "c"), (3, 0, 0, 0)),
    (("a", "b", "c"), (0, 0, 0, 3)),
    (("a", "b", "c"), (0, -1, 0, 0)),
    (("a", "b", "c"), (True, 0, 0, 0)),
    (("a", "b", "c"), (0, 0, 0, False)),
    (("a", "b", "c"), (0, 0, "0", 0)),
    (("a", "b", "c"), (0, 0, None, 0)),
    (("a", "b", "c"), (0, 0, (0,), 0)),
    (ZERO, ("a", "b", "c")),
)


def one_step(card, registers=ZERO, order=("a", "b", "c", "d"), wrap=5):
    """Return the state after a step of a card `a`, and the step as `trace` yields it."""
    deck = f"wrap {wrap}; a: {card};" + "".join(f" {name}: -> 0;" for name in order[1:])
    start = (order, registers)
    [step] = list(trace(deck, 1, start=start))
    return state_after(deck, 1, start=start), step


class StepTest(unittest.TestCase):
    def assert_registers(self, actions, before, after):
        state, _ = one_step(actions + " -> 0", before)
        self.assertEqual(state, (("a", "b", "c", "d"), after), actions)

    def assert_put(self, put, registers, order, depth):
        state, step = one_step("-> " + put, registers)
        self.assertEqual(state, (tuple(order), registers), put)
        self.assertEqual(step, ("a", [], depth), put)

    def test_the_state_at_the_start(self):
        self.assertEqual(state_after("wrap 2; z: -> 0; a: -> 0;", 0), (("z", "a"), ZERO))

    def test_add(self):
        self.assert_registers("add p 1", (0, 1, 2, 3), (1, 1, 2, 3))
        self.assert_registers("add s 4", (0, 1, 2, 3), (0, 1, 2, 2))
        self.assert_registers("add r 3", (0, 1, 2, 3), (0, 1, 0, 3))
        self.assert_registers("add q 0", (0, 1, 2, 3), (0, 1, 2, 3))

    def test_copy(self):
        self.assert_registers("copy p s", (0, 1, 2, 3), (3, 1, 2, 3))
        self.assert_registers("copy s p", (4, 1, 2, 3), (4, 1, 2, 4))
        self.assert_registers("copy q q", (4, 1, 2, 3), (4, 1, 2, 3))

    def test_swap(self):
        self.assert_registers("swap p s", (4, 1, 2, 3), (3, 1, 2, 4))
        self.assert_registers("swap r q", (4, 1, 2, 3), (4, 2, 1, 3))
        self.assert_registers("swap r r", (4, 1, 2, 3), (4, 1, 2, 3))

    def test_actions_in_order(self):
        self.assert_registers("add p 1, copy q p, add p 1, swap p r", (0, 1, 2, 3), (2, 1, 2, 3))
        self.assert_registers("copy q p, add p 1", (0, 1, 2, 3), (1, 0, 2, 3))

    def test_emit(self):
        state, step = one_step("emit p, emit 4, add p 1, emit p, emit s, emit 0 -> 1", (4, 0, 0, 3))
        self.assertEqual(step, ("a", [4, 4, 0, 3, 0], 1))
        self.assertEqual(state, (("b", "a", "c", "d"), (0, 0, 0, 3)))

    def test_put_of_a_number(self):
        self.assert_put("0", ZERO, "abcd", 0)
        self.assert_put("1", ZERO, "bacd", 1)
        self.assert_put("3", ZERO, "bcda", 3)

    def test_put_under_fewer_cards(self):
        self.assert_put("4", ZERO, "bcda", 3)
        self.assert_put("9", ZERO, "bcda", 3)
        self.assert_put("s", (0, 0, 0, 4), "bcda", 3)
        self.assert_put("s ? 1 : 9", (0, 0, 0, 4), "bcda", 3)

    def test_put_of_a_register(self):
        self.assert_put("p", (2, 0, 0, 0), "bcad", 2)
        self.assert_put("q", (2, 1, 0, 0), "bacd", 1)
        self.assert_put("r", (2, 1, 0, 0), "abcd", 0)

    def test_put_of_a_choice(self):
        self.assert_put("r ? 2 : 1", (2, 1, 0, 3), "bcad", 2)
        self.assert_put("q ? 2 : 1", (2, 1, 0, 3), "bacd", 1)
        self.assert_put("s ? 2 : 0", (2, 1, 0, 3), "abcd", 0)

    def test_puts_take_the_registers_as_they_are_now(self):
        self.assertEqual(one_step("add p 1 -> p")[1], ("a", [], 1))
        self.assertEqual(one_step("add p 4 -> p ? 2 : 1", (1, 0, 0, 0))[1], ("a", [], 2))

    def test_a_single_card(self):
        self.assertEqual(list(trace("wrap 2; a: emit p, add p 1 -> 9;", 3)),
                         [("a", [0], 0), ("a", [1], 0), ("a", [0], 0)])

    def test_the_largest_wrap_number(self):
        self.assertEqual(one_step("add p 15, emit p, add p 1, emit p -> 0", ZERO, wrap=16)[1], ("a", [15, 0], 0))


class StateAfterTest(unittest.TestCase):
    def test_examples(self):
        self.assertEqual(state_after(DECK, 4), (("a", "c", "b"), (2, 2, 0, 0)))
        self.assertEqual(state_after(DECK, 1, start=(("c", "a", "b"), (1, 0, 0, 0))),
                         (("a", "b", "c"), (1, 0, 0, 0)))

    def test_no_steps(self):
        start = (("c", "a", "b"), (2, 1, 0, 2))
        self.assertEqual(state_after(DECK, 0), (("a", "b", "c"), ZERO))
        self.assertEqual(state_after(DECK, 0, start=None), (("a", "b", "c"), ZERO))
        self.assertEqual(state_after(DECK, 0, start=start), start)

    def test_around_the_limit_of_short_decks(self):
        deck = "wrap 16; a: add p 1 -> p ? 1 : 0; b: add q 1, add p 1 -> 1; c: add r 1 -> p;"
        for count in (2999, 3000, 3001, 3002, 5000):
            with self.subTest(count=count):
                self.assertEqual(state_after(deck, count), reference.run(deck, count)[0])

    def test_many_steps(self):
        deck = "wrap 7; a: add p 1 -> 0;"
        self.assertEqual(state_after(deck, 10 ** 18), (("a",), (10 ** 18 % 7, 0, 0, 0)))
        self.assertEqual(state_after(deck, 10 ** 18 - 1), (("a",), ((10 ** 18 - 1) % 7, 0, 0, 0)))
        self.assertEqual(state_after(DECK, 10 ** 18), state_after(DECK, 5))

    def test_many_steps_behind_a_beginning(self):
        deck = "wrap 16; a: add p 1 -> p ? 1 : 0; b: emit p, copy q p -> q ? 0 : 1; c: -> 2;"
        for seed in range(40):
            text = deck if seed == 0 else reference.make_deck(seed)
            cycle = reference.find_cycle(text)
            if cycle is None:
                continue
            before, again = cycle
            for count in (3001, 3001 + again, 10 ** 9 + 7, 10 ** 18):
                with self.subTest(text=text, count=count):
                    same = before + (count - before) % again
                    self.assertEqual(state_after(text, count), reference.run(text, same)[0])

    def test_invalid_counts(self):
        for count in NO_COUNTS + (10 ** 18 + 1, 10 ** 19):
            with self.subTest(count=count), self.assertRaises(InvalidCount):
                state_after(DECK, count)

    def test_too_long(self):
        for deck in (LONG, TAIL):
            for count in (3001, 10 ** 18):
                with self.subTest(deck=deck, count=count), self.assertRaises(TooLong):
                    state_after(deck, count)

    def test_up_to_3000_steps_are_never_too_long(self):
        for deck in (LONG, TAIL):
            for count in (0, 1, 2999, 3000):
                with self.subTest(deck=deck, count=count):
                    self.assertEqual(state_after(deck, count), reference.run(deck, count)[0])

    def test_short_from_another_start(self):
        start = reference.run(LONG, 1278)[0]
        before = reference.run(LONG, 1277)[0]
        self.assertEqual(state_after(LONG, 3001, start=start), reference.run(LONG, 37, start)[0])
        with self.assertRaises(TooLong):
            state_after(LONG, 3001, start=before)

    def test_invalid_starts(self):
        for start in NO_STATES:
            for count in (0, 1, 3001):
                with self.subTest(start=start), self.assertRaises(InvalidState):
                    state_after(DECK, count, start=start)

    def test_order_of_the_errors(self):
        with self.assertRaises(SyntaxFault):
            state_after("wrap 1; a: -> 0", -1, start=0)
        with self.assertRaises(CheckFault):
            state_after("wrap 1; a: -> 0;", -1, start=0)
        with self.assertRaises(InvalidCount):
            state_after(LONG, 10 ** 18 + 1, start=0)
        with self.assertRaises(InvalidState):
            state_after(LONG, 10 ** 18, start=0)

    def test_start_is_keyword_only(self):
        with self.assertRaises(TypeError):
            state_after(DECK, 1, (("a", "b", "c"), ZERO))

    def test_the_same_result_again(self):
        self.assertEqual(state_after(DECK, 7), state_after(DECK, 7))


class TraceTest(unittest.TestCase):
    def test_example(self):
        self.assertEqual(list(trace(DECK, 3)), [("a", [1], 1), ("b", [], 1), ("a", [2], 1)])

    def test_it_is_a_generator(self):
        self.assertTrue(inspect.isgeneratorfunction(trace))
        steps = trace(DECK, 2)
        self.assertEqual(next(steps), ("a", [1], 1))
        self.assertEqual(next(steps), ("b", [], 1))
        with self.assertRaises(StopIteration):
            next(steps)

    def test_from_a_start(self):
        self.assertEqual(list(trace(DECK, 2, start=(("c", "a", "b"), (1, 0, 0, 0)))),
                         [("c", [], 2), ("a", [2], 1)])

    def test_counts_at_the_limits(self):
        self.assertEqual(list(trace(DECK, 0)), [])
        self.assertEqual(len(list(trace(DECK, 500))), 500)

    def test_decks_that_are_not_short(self):
        self.assertEqual(list(trace(LONG, 500)), reference.run(LONG, 500)[1])

    def test_kinds_and_new_lists(self):
        first = list(trace(DECK, 3))
        self.assertIs(type(first[0]), tuple)
        self.assertIs(type(first[0][1]), list)
        first[0][1].append(9)
        self.assertEqual(list(trace(DECK, 1)), [("a", [1], 1)])
        again = trace("wrap 2; a: emit 1 -> 0;", 2)
        next(again)[1].append(9)
        self.assertEqual(next(again), ("a", [1], 0))

    def assert_raises_at_the_first_step(self, error, *arguments, **more):
        steps = trace(*arguments, **more)
        with self.subTest(arguments=arguments, more=more), self.assertRaises(error):
            next(steps)

    def test_errors_are_raised_at_the_first_step(self):
        self.assert_raises_at_the_first_step(SyntaxFault, "wrap 1; a: -> 0", -1, start=0)
        self.assert_raises_at_the_first_step(CheckFault, "wrap 1; a: -> 0;", -1, start=0)
        self.assert_raises_at_the_first_step(InvalidCount, DECK, -1, start=0)
        self.assert_raises_at_the_first_step(InvalidState, DECK, 0, start=0)
        for count in NO_COUNTS + (501, 10 ** 18):
            self.assert_raises_at_the_first_step(InvalidCount, DECK, count)
        for start in NO_STATES:
            self.assert_raises_at_the_first_step(InvalidState, DECK, 1, start=start)

    def test_start_is_keyword_only(self):
        with self.assertRaises(TypeError):
            trace(DECK, 1, (("a", "b", "c"), ZERO))


class FindCycleTest(unittest.TestCase):
    def test_example(self):
        self.assertEqual(find_cycle(DECK), (5, 1))

    def test_from_the_first_state(self):
        self.assertEqual(find_cycle("wrap 2; a: -> 0;"), (0, 1))
        self.assertEqual(find_cycle("wrap 7; a: add p 1 -> 0;"), (0, 7))
        self.assertEqual(find_cycle("wrap 2; a: -> 9; b: -> 9; c: -> 9;"), (0, 3))

    def test_from_a_start(self):
        deck = "wrap 5; a: copy q p -> 0;"
        self.assertEqual(find_cycle(deck), (0, 1))
        self.assertEqual(find_cycle(deck, start=None), (0, 1))
        self.assertEqual(find_cycle(deck, start=(("a",), (3, 0, 0, 0))), (1, 1))
        self.assertEqual(find_cycle(DECK, start=state_after(DECK, 2)), (3, 1))

    def test_short_by_one_step(self):
        self.assertEqual(find_cycle(LONG, start=reference.run(LONG, 1278)[0]), (36, 2964))
        self.assertEqual(find_cycle(TAIL, start=reference.run(TAIL, 1634)[0]), (2998, 2))

    def test_too_long_by_one_step(self):
        for deck, count in ((LONG, 1277), (TAIL, 1633)):
            with self.subTest(deck=deck), self.assertRaises(TooLong):
                find_cycle(deck, start=reference.run(deck, count)[0])

    def test_too_long(self):
        for deck in (LONG, TAIL):
            with self.subTest(deck=deck), self.assertRaises(TooLong):
                find_cycle(deck)

    def test_invalid_starts(self):
        for start in NO_STATES:
            with self.subTest(start=start), self.assertRaises(InvalidState):
                find_cycle(DECK, start=start)

    def test_order_of_the_errors(self):
        with self.assertRaises(SyntaxFault):
            find_cycle("wrap 1; a: -> 0", start=0)
        with self.assertRaises(CheckFault):
            find_cycle("wrap 1; a: -> 0;", start=0)
        with self.assertRaises(InvalidState):
            find_cycle(LONG, start=0)

    def test_start_is_keyword_only(self):
        with self.assertRaises(TypeError):
            find_cycle(DECK, (("a", "b", "c"), ZERO))


class ManyDecksTest(unittest.TestCase):
    def test_steps_states_and_cycles(self):
        for seed in range(120):
            deck = reference.make_deck(seed)
            with self.subTest(deck=deck):
                state, steps = reference.run(deck, 60)
                self.assertEqual(state_after(deck, 60), state)
                self.assertEqual(list(trace(deck, 60)), steps)
                self.assertEqual(state_after(deck, 20, start=state), reference.run(deck, 20, state)[0])
                cycle = reference.find_cycle(deck)
                if cycle is None:
                    with self.assertRaises(TooLong):
                        find_cycle(deck)
                else:
                    self.assertEqual(find_cycle(deck), cycle)


if __name__ == "__main__":
    unittest.main()
