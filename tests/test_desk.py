"""Tests of deckwork.desk (points 1, 14 and 15)."""

import random
import unittest

from deckwork.desk import Desk
from deckwork.errors import (CheckFault, DeckError, InvalidCount, InvalidName, InvalidOperation, InvalidRegister,
                             InvalidValue, SyntaxFault, UnknownCard, UnknownName)
from tests import reference
from tests.test_machine import DECK, LONG, TAIL, ZERO

ABC = ("a", "b", "c")
START = (ABC, ZERO)
# Emits 0 to 6 again and again.
WHEEL = "wrap 7; a: emit p, add p 1 -> 0;"
NO_COUNTS = (None, True, False, "", "1", (), (1,), [], [1], -1, 501, 10 ** 30)
NO_POSITIONS = (None, True, False, "", "0", (), (0,), [], [0], -1, 3, 10 ** 30)
NO_LETTERS = (None, True, False, 0, 1, "", "t", "P", "pq", "p ", "a", (), ("p",), [], ["p"])
NO_VALUES = (None, True, False, "", "1", (), (1,), [], [1], -1, 3, 10 ** 30)
NO_CARDS = (None, True, False, 0, "", "d", "A", "ab", "p", (), ("a",), [], ["a"])
NO_NAMES = (None, True, False, 0, 1, "", "abcdefghi", "A", "a1", "1", "a b", " a", "a_", "a\n", (), ("a",), [], ["a"])
# Entries that are malformed, each in its own way.
MALFORMED = (
    None, True, False, 0, 1, "", "step", "reset", [], ["reset"], ["step", 1], (), ((),), ([],), (None,), (True,), (0,),
    ("",), ("steps", 1), ("Step", 1), ("step ", 1), ("save", "x"), ("restore", "x"), ("batch", []), ("state",),
    (("step", 1),), (["step"], 1), (("step",), 1), (1, "step"), ("step",), ("step", 1, 1), ("poke",), ("poke", "p"),
    ("poke", "p", 1, 1), ("lift",), ("lift", "a"), ("lift", "a", 0, 0), ("reset", 1), ("reset", None), ("undo", 1),
    ("redo", 1), ("redo", ()),
)
# Entries that are well-formed, but fail, with their errors.
FAILING = (
    (("step", -1), InvalidCount), (("step", 501), InvalidCount), (("step", True), InvalidCount),
    (("step", [1]), InvalidCount), (("step", ()), InvalidCount),
    (("poke", "x", 1), InvalidRegister), (("poke", ["p"], 1), InvalidRegister), (("poke", "x", 9), InvalidRegister),
    (("poke", "p", 3), InvalidValue), (("poke", "p", False), InvalidValue), (("poke", "p", "1"), InvalidValue),
    (("lift", "d", 0), UnknownCard), (("lift", [], 0), UnknownCard), (("lift", "d", 9), UnknownCard),
    (("lift", "a", 3), InvalidCount), (("lift", "a", None), InvalidCount),
)


def describe(desk):
    """Return what a desk shows; the lists are copies, which later changes do not reach."""
    return (desk.state, list(desk.output), desk.steps_done, list(desk.operations))


def describe_all(desk):
    """Return what a desk shows now, after each undo that is possible and after each redo; the desk stays as it is."""
    shown = [describe(desk)]
    backward = forward = 0
    while desk.undo():
        backward += 1
        shown.append(describe(desk))
    while desk.redo():
        forward += 1
        shown.append(describe(desk))
    for _ in range(forward - backward):
        desk.undo()
    return shown


class Model:
    """A second desk, which keeps everything as copies."""

    def __init__(self, deck):
        self.deck = reference.read_deck(deck)
        self.now = (reference.first_state(self.deck), [], 0, [])
        self.past, self.future = [], []
        self.snapshots = {}

    def set(self, word, state, output, steps):
        self.past.append(self.now)
        self.future = []
        self.now = (state, output, steps, self.now[3] + [word])

    def run(self, word, *arguments):
        (order, values), output, steps, _ = self.now
        if word == "step":
            state, emitted = (order, values), []
            for _ in range(arguments[0]):
                state, _, more, _ = reference.make_step(self.deck, state)
                emitted = emitted + more
            self.set(word, state, output + emitted, steps + arguments[0])
            return emitted
        if word == "poke":
            values = tuple(arguments[1] if letter == arguments[0] else value for letter, value in zip("pqrs", values))
            return self.set(word, (order, values), output, steps)
        if word == "lift":
            rest = order[:order.index(arguments[0])] + order[order.index(arguments[0]) + 1:]
            order = rest[:arguments[1]] + arguments[:1] + rest[arguments[1]:]
            self.set(word, (order, values), output, steps)
            return order
        if word == "reset":
            return self.set(word, reference.first_state(self.deck), [], 0)
        source, target = (self.past, self.future) if word == "undo" else (self.future, self.past)
        if not source:
            return False
        target.append(self.now)
        self.now = source.pop()
        return True

    def save(self, name):
        self.snapshots[name] = (self.now, list(self.past), list(self.future))

    def restore(self, name):
        self.now, past, future = self.snapshots[name]
        self.past, self.future = list(past), list(future)


def make_operation(rng, names, wrap):
    """Return some operation that does not fail."""
    return rng.choice([("step", rng.choice([0, 1, 2, 5])), ("step", rng.randrange(20)),
                       ("poke", rng.choice("pqrs"), rng.randrange(wrap)),
                       ("lift", rng.choice(names), rng.randrange(len(names))),
                       ("reset",), ("undo",), ("undo",), ("redo",), ("redo",)])


class DeskTestCase(unittest.TestCase):
    def assert_refused(self, desk, error, call, *arguments):
        before = describe_all(desk)
        for _ in range(2):
            with self.assertRaises(error) as caught:
                call(*arguments)
            self.assertEqual(describe_all(desk), before)
        return caught.exception


class DeskTest(DeskTestCase):
    def test_examples(self):
        self.assertEqual(Desk(DECK).step(3), [1, 2])
        desk = Desk(DECK)
        self.assertIsNone(desk.poke("p", 2))
        self.assertEqual(desk.state, (ABC, (2, 0, 0, 0)))
        with self.assertRaises(InvalidValue):
            Desk(DECK).poke("p", 3)
        self.assertEqual(Desk(DECK).lift("c", 0), ("c", "a", "b"))

    def test_examples_of_reset_undo_and_redo(self):
        desk = Desk(DECK)
        desk.step(3)
        self.assertIsNone(desk.reset())
        self.assertEqual([desk.steps_done, desk.output], [0, []])
        desk = Desk(DECK)
        desk.step(1)
        self.assertEqual([desk.undo(), desk.output, desk.undo()], [True, [], False])
        desk = Desk(DECK)
        desk.step(1)
        desk.undo()
        self.assertEqual([desk.redo(), desk.output], [True, [1]])

    def test_examples_of_the_properties(self):
        desk = Desk(DECK)
        desk.step(1)
        self.assertEqual(desk.state, (("b", "a", "c"), (1, 0, 0, 0)))
        desk = Desk(DECK)
        desk.step(9)
        self.assertEqual(desk.output, [1, 2, 0])
        self.assertEqual(desk.steps_done, 9)
        self.assertEqual(desk.operations, ["step"])

    def test_at_the_start(self):
        self.assertEqual(describe(Desk(DECK)), (START, [], 0, []))
        self.assertEqual(describe(Desk("wrap 2; z: -> 0; a: -> 0;")), ((("z", "a"), ZERO), [], 0, []))

    def test_steps(self):
        for deck in (DECK, WHEEL, LONG, TAIL):
            desk = Desk(deck)
            done, output = 0, []
            for count in (0, 1, 2, 0, 7, 500, 499):
                done += count
                state, steps = reference.run(deck, done)
                values = [value for _, emitted, _ in steps for value in emitted]
                self.assertEqual(desk.step(count), values[len(output):])
                output = values
                self.assertEqual(desk.state, state)
                self.assertEqual(desk.output, output)
                self.assertEqual(desk.steps_done, done)
            self.assertEqual(desk.operations, ["step"] * 7)

    def test_decks_that_are_not_short(self):
        desk = Desk(TAIL)
        for _ in range(8):
            desk.step(500)
        self.assertEqual(desk.state, reference.run(TAIL, 4000)[0])

    def test_no_steps_are_an_operation(self):
        desk = Desk(DECK)
        self.assertEqual(desk.step(0), [])
        self.assertEqual(describe(desk), (START, [], 0, ["step"]))
        self.assertIs(desk.undo(), True)
        self.assertIs(desk.undo(), False)
        self.assertIs(desk.redo(), True)
        self.assertEqual(desk.operations, ["step"])

    def test_invalid_counts_of_steps(self):
        desk = Desk(DECK)
        desk.step(2)
        for count in NO_COUNTS:
            with self.subTest(count=count):
                self.assert_refused(desk, InvalidCount, desk.step, count)

    def test_poke(self):
        desk = Desk(DECK)
        desk.step(4)
        order, registers = desk.state
        for at, letter in enumerate("pqrs"):
            for value in (1, 2, 0, 0):
                self.assertIsNone(desk.poke(letter, value))
                registers = registers[:at] + (value,) + registers[at + 1:]
                self.assertEqual(desk.state, (order, registers))
        self.assertEqual(desk.operations, ["step"] + ["poke"] * 16)
        self.assertEqual((desk.output, desk.steps_done), ([1, 2], 4))

    def test_poke_limits(self):
        for wrap in (2, 16):
            desk = Desk(f"wrap {wrap}; a: -> 0;")
            desk.poke("s", wrap - 1)
            self.assertEqual(desk.state, (("a",), (0, 0, 0, wrap - 1)))
            self.assert_refused(desk, InvalidValue, desk.poke, "s", wrap)

    def test_invalid_pokes(self):
        desk = Desk(DECK)
        desk.poke("q", 1)
        for letter in NO_LETTERS:
            for value in (1, 3, None):
                with self.subTest(letter=letter, value=value):
                    self.assert_refused(desk, InvalidRegister, desk.poke, letter, value)
        for value in NO_VALUES:
            with self.subTest(value=value):
                self.assert_refused(desk, InvalidValue, desk.poke, "p", value)

    def test_lift(self):
        deck = "wrap 2; a: -> 0; b: -> 0; c: -> 0; d: -> 0;"
        for name, position, order in (("a", 0, "abcd"), ("a", 1, "bacd"), ("a", 2, "bcad"), ("a", 3, "bcda"),
                                      ("c", 0, "cabd"), ("c", 1, "acbd"), ("c", 2, "abcd"), ("c", 3, "abdc"),
                                      ("d", 0, "dabc"), ("d", 3, "abcd")):
            with self.subTest(name=name, position=position):
                desk = Desk(deck)
                desk.poke("r", 1)
                self.assertEqual(desk.lift(name, position), tuple(order))
                self.assertEqual(describe(desk), ((tuple(order), (0, 0, 1, 0)), [], 0, ["poke", "lift"]))
                self.assertTrue(desk.undo())
                self.assertEqual(desk.state, (("a", "b", "c", "d"), (0, 0, 1, 0)))

    def test_lift_in_the_present_order(self):
        desk = Desk(DECK)
        desk.step(1)
        self.assertEqual(desk.lift("c", 1), ("b", "c", "a"))
        self.assertEqual(desk.lift("b", 2), ("c", "a", "b"))
        self.assertEqual((desk.output, desk.steps_done), ([1], 1))

    def test_invalid_lifts(self):
        desk = Desk(DECK)
        desk.lift("b", 0)
        for name in NO_CARDS:
            for position in (0, 3, None):
                with self.subTest(name=name, position=position):
                    self.assert_refused(desk, UnknownCard, desk.lift, name, position)
        for position in NO_POSITIONS:
            with self.subTest(position=position):
                self.assert_refused(desk, InvalidCount, desk.lift, "a", position)
        one = Desk(WHEEL)
        self.assertEqual(one.lift("a", 0), ("a",))
        self.assert_refused(one, InvalidCount, one.lift, "a", 1)

    def test_reset(self):
        desk = Desk(DECK)
        desk.step(3)
        desk.poke("s", 1)
        desk.lift("c", 0)
        before = describe(desk)
        desk.reset()
        self.assertEqual(describe(desk), (START, [], 0, ["step", "poke", "lift", "reset"]))
        self.assertEqual(desk.step(1), [1])
        self.assertEqual(describe(desk), ((("b", "a", "c"), (1, 0, 0, 0)), [1], 1,
                                          ["step", "poke", "lift", "reset", "step"]))
        desk.undo()
        desk.undo()
        self.assertEqual(describe(desk), before)
        desk.redo()
        self.assertEqual(describe(desk), (START, [], 0, ["step", "poke", "lift", "reset"]))

    def test_reset_at_the_start_is_an_operation(self):
        desk = Desk(DECK)
        desk.reset()
        desk.reset()
        self.assertEqual(desk.operations, ["reset", "reset"])
        self.assertEqual([desk.undo(), desk.undo(), desk.undo()], [True, True, False])

    def test_undo_and_redo_of_several(self):
        desk = Desk(DECK)
        shown = [describe(desk)]
        for call, arguments in ((desk.step, (2,)), (desk.poke, ("q", 2)), (desk.lift, ("c", 0)), (desk.reset, ()),
                                (desk.step, (5,))):
            call(*arguments)
            shown.append(describe(desk))
        for expected in reversed(shown[:-1]):
            self.assertIs(desk.undo(), True)
            self.assertEqual(describe(desk), expected)
        self.assertIs(desk.undo(), False)
        self.assertEqual(describe(desk), shown[0])
        for expected in shown[1:]:
            self.assertIs(desk.redo(), True)
            self.assertEqual(describe(desk), expected)
        self.assertIs(desk.redo(), False)
        self.assertEqual(describe(desk), shown[-1])

    def test_each_operation_ends_redo(self):
        for call, arguments in (("step", (0,)), ("poke", ("p", 0)), ("lift", ("a", 0)), ("reset", ())):
            desk = Desk(DECK)
            desk.step(1)
            desk.step(1)
            desk.undo()
            getattr(desk, call)(*arguments)
            before = describe(desk)
            with self.subTest(call=call):
                self.assertIs(desk.redo(), False)
                self.assertEqual(describe(desk), before)
                self.assertEqual(desk.operations, ["step", call])

    def test_what_does_not_end_redo(self):
        desk = Desk(DECK)
        desk.step(1)
        desk.poke("p", 2)
        desk.undo()
        desk.undo()
        desk.undo()
        for call, arguments in ((desk.step, (501,)), (desk.poke, ("p", 3)), (desk.lift, ("d", 0)),
                                (desk.save, ("",)), (desk.restore, ("none",)), (desk.batch, ([("step", 501)],)),
                                (desk.batch, ([("step", 1), ("step", 501)],)), (desk.batch, (None,))):
            with self.assertRaises(DeckError):
                call(*arguments)
        desk.save("x")
        self.assertEqual(desk.batch([]), [])
        self.assertEqual([desk.redo(), desk.redo(), desk.redo()], [True, True, False])
        self.assertEqual(desk.operations, ["step", "poke"])

    def test_undone_operations_are_not_in_effect(self):
        desk = Desk(DECK)
        desk.step(1)
        desk.undo()
        desk.lift("c", 0)
        self.assertEqual(desk.operations, ["lift"])
        self.assertEqual(describe(desk), ((("c", "a", "b"), ZERO), [], 0, ["lift"]))

    def test_against_a_second_desk(self):
        for seed in range(80):
            rng = random.Random(seed)
            deck = reference.make_deck(seed)
            desk, model = Desk(deck), Model(deck)
            wrap, cards = reference.read_deck(deck)
            for _ in range(40):
                operation = make_operation(rng, list(cards), wrap)
                self.assertEqual(getattr(desk, operation[0])(*operation[1:]), model.run(*operation), deck)
                if rng.random() < 0.1:
                    desk.save("x")
                    model.save("x")
                if rng.random() < 0.1 and model.snapshots:
                    desk.restore("x")
                    model.restore("x")
                self.assertEqual(describe(desk), model.now, (deck, operation))

    def test_two_desks_side_by_side(self):
        first, second = Desk(DECK), Desk(DECK)
        first.step(2)
        second.lift("c", 0)
        first.save("x")
        self.assertEqual(describe(second), ((("c", "a", "b"), ZERO), [], 0, ["lift"]))
        self.assert_refused(second, UnknownName, second.restore, "x")
        second.undo()
        self.assertEqual(first.steps_done, 2)
        self.assertIs(first.redo(), False)
        self.assertIs(second.redo(), True)

    def test_returned_lists_are_new(self):
        desk = Desk(DECK)
        emitted = desk.step(3)
        emitted.append(9)
        desk.output.append(9)
        desk.operations.clear()
        self.assertEqual(describe(desk)[1:], ([1, 2], 3, ["step"]))
        self.assertIsNot(desk.output, desk.output)
        self.assertIsNot(desk.operations, desk.operations)
        desk.undo()
        desk.redo()
        self.assertEqual(desk.output, [1, 2])
        self.assertEqual(desk.step(2), [0])

    def test_reading_changes_nothing(self):
        desk = Desk(DECK)
        desk.step(3)
        desk.undo()
        self.assertEqual(describe(desk), describe(desk))
        self.assertIs(desk.redo(), True)
        self.assertEqual(describe(desk), describe(desk))

    def test_errors_of_the_deck(self):
        for deck in (None, True, 1, "", "wrap 2;", ["wrap 2; a: -> 0;"]):
            with self.subTest(deck=deck), self.assertRaises(SyntaxFault):
                Desk(deck)
        with self.assertRaises(CheckFault) as caught:
            Desk("wrap 17; a: -> 0;")
        self.assertEqual((caught.exception.reason, caught.exception.line, caught.exception.column), ("wrap", 0, 5))


class SnapshotTest(DeskTestCase):
    def test_example(self):
        desk = Desk(DECK)
        self.assertIsNone(desk.save("x"))
        desk.step(1)
        self.assertIsNone(desk.restore("x"))
        self.assertEqual(desk.output, [])

    def test_undo_and_redo_are_part_of_it(self):
        desk = Desk(DECK)
        desk.step(1)
        desk.poke("q", 2)
        desk.lift("c", 0)
        desk.undo()
        before = describe_all(desk)
        desk.save("x")
        self.assertEqual(describe_all(desk), before)
        for call, arguments in ((desk.step, (5,)), (desk.reset, ()), (desk.undo, ()), (desk.redo, ())):
            call(*arguments)
            desk.restore("x")
            self.assertEqual(describe_all(desk), before)
        desk.undo()
        desk.undo()
        desk.restore("x")
        self.assertIs(desk.redo(), True)
        self.assertEqual(desk.operations, ["step", "poke", "lift"])
        self.assertIs(desk.redo(), False)

    def test_restore_is_no_operation(self):
        desk = Desk(DECK)
        desk.save("x")
        desk.step(1)
        desk.restore("x")
        self.assertEqual(describe(desk), (START, [], 0, []))
        self.assertIs(desk.undo(), False)
        self.assertIs(desk.redo(), False)

    def test_snapshots_are_not_part_of_the_state(self):
        desk = Desk(DECK)
        desk.save("early")
        desk.step(1)
        desk.save("late")
        desk.restore("early")
        desk.restore("late")
        self.assertEqual(desk.operations, ["step"])
        desk.undo()
        desk.reset()
        desk.restore("late")
        self.assertEqual(desk.operations, ["step"])

    def test_a_snapshot_is_replaced(self):
        desk = Desk(DECK)
        desk.save("x")
        desk.save("y")
        desk.step(2)
        desk.save("x")
        desk.step(2)
        desk.restore("x")
        self.assertEqual(desk.steps_done, 2)
        desk.restore("y")
        self.assertEqual(desk.steps_done, 0)

    def test_a_snapshot_stays_as_it_is(self):
        desk = Desk(DECK)
        desk.step(2)
        desk.undo()
        desk.save("x")
        for _ in range(2):
            desk.restore("x")
            self.assertIs(desk.redo(), True)
            desk.undo()
            desk.lift("c", 0)
            desk.batch([("step", 4), ("undo",), ("undo",)])

    def test_names(self):
        desk = Desk(DECK)
        for many, name in enumerate(("a", "z", "abcdefgh", "zzzzzzzz", "p", "wrap", "step")):
            desk.step(1)
            desk.save(name)
            self.assertEqual(desk.steps_done, many + 1)
        desk.restore("abcdefgh")
        self.assertEqual(desk.steps_done, 3)
        desk.restore("p")
        self.assertEqual(desk.steps_done, 5)

    def test_invalid_names(self):
        desk = Desk(DECK)
        desk.step(1)
        for name in NO_NAMES:
            with self.subTest(name=name):
                self.assert_refused(desk, InvalidName, desk.save, name)
                self.assert_refused(desk, UnknownName, desk.restore, name)

    def test_unknown_names(self):
        desk = Desk(DECK)
        desk.step(1)
        desk.save("x")
        for name in ("y", "xx", "a", "X", "x "):
            with self.subTest(name=name):
                self.assert_refused(desk, UnknownName, desk.restore, name)


class BatchTest(DeskTestCase):
    def test_examples(self):
        self.assertEqual(Desk(DECK).batch([("step", 1), ("undo",)]), [[1], True])
        with self.assertRaises(InvalidOperation) as caught:
            Desk(DECK).batch([("step",)])
        self.assertEqual(caught.exception.place, 0)

    def test_results(self):
        desk = Desk(DECK)
        self.assertEqual(desk.batch([("step", 3), ("poke", "p", 1), ("lift", "c", 0), ("undo",), ("redo",), ("redo",),
                                     ("step", 0), ("reset",), ("undo",), ("undo",), ("undo",), ("undo",), ("undo",),
                                     ("undo",), ("redo",)]),
                         [[1, 2], None, ("c", "b", "a"), True, True, False, [], None, True, True, True, True, True,
                          False, True])
        self.assertEqual(describe(desk), (reference.run(DECK, 3)[0], [1, 2], 3, ["step"]))

    def test_no_operations(self):
        desk = Desk(DECK)
        desk.step(1)
        desk.undo()
        before = describe_all(desk)
        self.assertEqual(desk.batch([]), [])
        self.assertEqual(describe_all(desk), before)

    def test_each_operation_is_undone_alone(self):
        desk = Desk(DECK)
        desk.step(1)
        desk.batch([("step", 1), ("poke", "s", 2), ("reset",)])
        self.assertEqual(desk.operations, ["step", "step", "poke", "reset"])
        desk.undo()
        self.assertEqual(desk.state, (reference.run(DECK, 2)[0][0], (1, 1, 0, 2)))
        desk.undo()
        desk.undo()
        self.assertEqual(describe(desk), (reference.run(DECK, 1)[0], [1], 1, ["step"]))
        self.assertEqual(desk.batch([("redo",), ("redo",), ("redo",), ("redo",)]), [True, True, True, False])
        self.assertEqual(desk.operations, ["step", "step", "poke", "reset"])

    def test_same_as_single_operations(self):
        for seed in range(40):
            rng = random.Random(seed)
            deck = reference.make_deck(seed)
            wrap, cards = reference.read_deck(deck)
            operations = [make_operation(rng, list(cards), wrap) for _ in range(30)]
            desk, model = Desk(deck), Model(deck)
            self.assertEqual(desk.batch(operations), [model.run(*operation) for operation in operations])
            self.assertEqual(describe(desk), model.now)
            self.assertEqual(describe(Desk.replay(deck, operations)), model.now)

    def test_an_operation_that_fails(self):
        for operation, error in FAILING:
            for before, after in (([], []), ([("step", 2)], []), ([], [("reset",)]),
                                  ([("undo",), ("undo",), ("lift", "c", 0)], [("step", 1)]),
                                  ([("redo",), ("redo",)], [("undo",)]),
                                  ([("undo",), ("undo",), ("undo",)], [("step", -1)]),
                                  ([("reset",), ("poke", "q", 1), ("step", 7)], [])):
                desk = Desk(DECK)
                desk.step(4)
                desk.poke("s", 2)
                desk.lift("c", 1)
                desk.undo()
                with self.subTest(operation=operation, before=before):
                    caught = self.assert_refused(desk, error, desk.batch, before + [operation] + after)
                    self.assertIs(caught.__class__, error)

    def test_malformed_entries(self):
        for entry in MALFORMED:
            for before in ([], [("step", 2)], [("undo",), ("reset",), ("redo",)], [("step", 501)], [("lift", "x", 0)]):
                desk = Desk(DECK)
                desk.step(1)
                desk.step(1)
                desk.undo()
                with self.subTest(entry=entry, before=before):
                    for after in ([], [("step", 1)], [("step",), None]):
                        error = self.assert_refused(desk, InvalidOperation, desk.batch, before + [entry] + after)
                        self.assertEqual(error.place, len(before))

    def test_no_list(self):
        for operations in (None, True, 0, "", "step", (), ("step", 1), (("step", 1),)):
            desk = Desk(DECK)
            desk.step(1)
            with self.subTest(operations=operations):
                self.assertEqual(self.assert_refused(desk, InvalidOperation, desk.batch, operations).place, 0)

    def test_lists_are_new_and_not_modified(self):
        operations = [("step", 3), ("undo",), ("redo",)]
        desk = Desk(DECK)
        results = desk.batch(operations)
        self.assertEqual(operations, [("step", 3), ("undo",), ("redo",)])
        results[0].append(9)
        results.clear()
        operations.append(("reset",))
        self.assertEqual(describe(desk)[1:], ([1, 2], 3, ["step"]))

    def test_snapshots_survive_a_batch_that_fails(self):
        desk = Desk(DECK)
        desk.step(1)
        desk.save("x")
        with self.assertRaises(InvalidCount):
            desk.batch([("undo",), ("step", 2), ("step", None)])
        desk.reset()
        desk.restore("x")
        self.assertEqual(desk.output, [1])


class ReplayTest(unittest.TestCase):
    def assert_invalid(self, operations, place):
        before = repr(operations)
        for _ in range(2):
            with self.assertRaises(InvalidOperation) as caught:
                Desk.replay(DECK, operations)
            self.assertEqual(caught.exception.place, place, operations)
        self.assertEqual(repr(operations), before)

    def test_example(self):
        desk = Desk.replay(DECK, [("step", 3)])
        self.assertIsInstance(desk, Desk)
        self.assertEqual(desk.output, [1, 2])

    def test_no_operations(self):
        self.assertEqual(describe(Desk.replay(DECK, [])), (START, [], 0, []))

    def test_undo_and_redo(self):
        desk = Desk.replay(DECK, [("undo",), ("redo",), ("step", 1), ("step", 1), ("poke", "r", 1), ("undo",),
                                  ("undo",), ("redo",)])
        self.assertEqual(describe(desk), (reference.run(DECK, 2)[0], [1], 2, ["step", "step"]))
        self.assertIs(desk.redo(), True)
        self.assertEqual(desk.operations, ["step", "step", "poke"])

    def test_a_new_desk_each_time(self):
        first = Desk.replay(DECK, [("step", 1)])
        first.save("x")
        second = first.replay(DECK, [("lift", "c", 0)])
        self.assertEqual(first.operations, ["step"])
        self.assertEqual(second.operations, ["lift"])
        with self.assertRaises(UnknownName):
            second.restore("x")

    def test_malformed_and_failing_entries(self):
        for entry in MALFORMED + tuple(operation for operation, _ in FAILING):
            with self.subTest(entry=entry):
                self.assert_invalid([entry], 0)
                self.assert_invalid([("step", 1), ("undo",), entry, ("reset",)], 2)
                # The first one counts, malformed or not.
                self.assert_invalid([("step", 1), entry, ("step",)], 1)
                self.assert_invalid([("step", 1), entry, ("step", 501)], 1)
                self.assert_invalid([("step", 501), entry], 0)
                self.assert_invalid([("step",), entry], 0)

    def test_no_list(self):
        for operations in (None, True, 0, "", "step", (), ("step", 1), (("step", 1),)):
            with self.subTest(operations=operations):
                self.assert_invalid(operations, 0)

    def test_errors_of_the_deck_come_first(self):
        for operations in ([], [("step",)], None):
            with self.assertRaises(SyntaxFault):
                Desk.replay("wrap 2", operations)
            with self.assertRaises(SyntaxFault):
                Desk.replay(None, operations)
            with self.assertRaises(CheckFault):
                Desk.replay("wrap 1; a: -> 0;", operations)

    def test_the_list_is_not_kept(self):
        operations = [("step", 3)]
        desk = Desk.replay(DECK, operations)
        operations.append(("reset",))
        self.assertEqual(desk.operations, ["step"])


if __name__ == "__main__":
    unittest.main()
