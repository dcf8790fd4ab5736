"""Tests over the whole program: the interface as it is listed, and point 1."""

import ast
import importlib
import inspect
import unittest

from deckwork.backward import comes_again, predecessors, reaches
from deckwork.comparison import are_equal, first_difference
from deckwork.counting import count_acts, count_emitted, first_emitted, idle_cards, nth_emitted
from deckwork.desk import Desk
from deckwork.encoding import decode, encode
from deckwork.errors import (DeckError, InvalidCode, InvalidCount, InvalidOperation, InvalidSession, InvalidState,
                             InvalidValue, InvalidValues, SyntaxFault, UnknownCard)
from deckwork.formatter import card_names, format_deck
from deckwork.hidden import Watcher, find_orders
from deckwork.machine import find_cycle, state_after, trace
from deckwork.session import format_session, parse_session
from deckwork.simplifier import measure, simplify
from tests.test_language import read_files
from tests.test_machine import DECK, ZERO

STATE = (("a", "b", "c"), ZERO)
FUNCTIONS = {
    "formatter": {"format_deck": "deck", "card_names": "deck"},
    "machine": {"state_after": "deck count *start", "trace": "deck count *start", "find_cycle": "deck *start"},
    "counting": {"count_emitted": "deck count *start", "count_acts": "deck name count *start",
                 "first_emitted": "deck number *start", "nth_emitted": "deck number *start",
                 "idle_cards": "deck *start"},
    "backward": {"predecessors": "deck state", "comes_again": "deck state", "reaches": "deck first second"},
    "comparison": {"first_difference": "first second", "are_equal": "first second"},
    "simplifier": {"simplify": "deck", "measure": "deck"},
    "encoding": {"encode": "deck", "decode": "code"},
    "hidden": {"find_orders": "deck values"},
    "session": {"format_session": "deck operations", "parse_session": "text"},
}
METHODS = {
    ("hidden", "Watcher"): {"see_value": "value", "see_values": "*values", "see_card": "position name",
                            "candidates": "", "next_values": "", "known_cards": "", "best_position": "",
                            "history": ""},
    ("desk", "Desk"): {"step": "count", "poke": "letter value", "lift": "name position", "reset": "", "undo": "",
                       "redo": "", "save": "name", "restore": "name", "batch": "operations",
                       "replay": "deck operations"},
}
PROPERTIES = ("state", "output", "steps_done", "operations")
ERRORS = {"DeckError", "SyntaxFault", "CheckFault", "InvalidState", "InvalidCount", "TooLong", "UnknownCard",
          "TooManyOrders", "InvalidValues", "InvalidValue", "Contradiction", "InvalidCode", "InvalidRegister",
          "InvalidName", "UnknownName", "InvalidOperation", "InvalidSession"}
# Each call twice gives the same; its result is a new list where it is one.
CALLS = (
    lambda: format_deck(DECK), lambda: card_names(DECK), lambda: state_after(DECK, 7), lambda: list(trace(DECK, 7)),
    lambda: find_cycle(DECK), lambda: count_emitted(DECK, 7), lambda: count_acts(DECK, "a", 7),
    lambda: first_emitted(DECK, 7), lambda: nth_emitted(DECK, 2), lambda: idle_cards("wrap 2; a: -> 0; b: -> 0;"),
    lambda: predecessors(DECK, STATE), lambda: comes_again(DECK, STATE), lambda: reaches(DECK, STATE, STATE),
    lambda: first_difference(DECK, "wrap 2; a: -> 0;"), lambda: are_equal(DECK, DECK), lambda: simplify(DECK),
    lambda: measure(DECK), lambda: encode(DECK), lambda: decode(encode(DECK)), lambda: find_orders(DECK, [1]),
    lambda: Watcher(DECK).candidates(), lambda: Watcher(DECK).next_values(), lambda: Watcher(DECK).history(),
    lambda: Desk(DECK).step(9), lambda: Desk(DECK).batch([("step", 9)]), lambda: Desk.replay(DECK, []).output,
    lambda: format_session(DECK, [("undo",)]), lambda: list(parse_session("deck 1\n" + DECK + "\nundo")),
)


def describe_parameters(function):
    """Return the names of the parameters; those that are keyword-only or take several have a star."""
    words = []
    for parameter in inspect.signature(function).parameters.values():
        starred = parameter.kind in (parameter.KEYWORD_ONLY, parameter.VAR_POSITIONAL)
        words.append("*" * starred + parameter.name)
    return " ".join(words)


class InterfaceTest(unittest.TestCase):
    def test_functions(self):
        for module, functions in FUNCTIONS.items():
            for name, parameters in functions.items():
                function = getattr(importlib.import_module("deckwork." + module), name)
                with self.subTest(name=name):
                    self.assertEqual(describe_parameters(function), parameters)
                    self.assertEqual(function.__module__, "deckwork." + module)

    def test_start_is_none_if_it_is_not_given(self):
        for function in (state_after, trace, find_cycle, count_emitted, count_acts, first_emitted, nth_emitted,
                         idle_cards):
            self.assertIsNone(inspect.signature(function).parameters["start"].default)

    def test_methods_are_defined_in_their_class(self):
        for (module, owner), methods in METHODS.items():
            made = getattr(importlib.import_module("deckwork." + module), owner)
            self.assertEqual(made.__module__, "deckwork." + module)
            self.assertEqual(describe_parameters(made), "deck")
            for name, parameters in methods.items():
                with self.subTest(name=name):
                    self.assertIn(name, vars(made))
                    words = describe_parameters(getattr(made, name)).split(" ")
                    self.assertEqual(" ".join(word for word in words if word != "self"), parameters)
        self.assertIsInstance(vars(Desk)["replay"], classmethod)
        for name in PROPERTIES:
            self.assertIsInstance(vars(Desk)[name], property)

    def test_errors(self):
        module = importlib.import_module("deckwork.errors")
        found = {name for name, value in vars(module).items() if inspect.isclass(value)}
        self.assertEqual(found, ERRORS)

    def test_definitions_stand_in_the_listed_files(self):
        expected = {module: set(functions) for module, functions in FUNCTIONS.items()}
        expected["errors"] = ERRORS
        for module, owner in METHODS:
            expected.setdefault(module, set()).add(owner)
        files = read_files()
        for module, names in expected.items():
            body = ast.parse(files[module + ".py"]).body
            defined = {node.name for node in body if isinstance(node, (ast.FunctionDef, ast.ClassDef))}
            self.assertLessEqual(names, defined, module)


class PointOneTest(unittest.TestCase):
    def test_true_and_false_are_no_integers(self):
        for value in (True, False):
            state = (("a", "b", "c"), (value, 0, 0, 0))
            for error, call in (
                    (SyntaxFault, lambda: format_deck(value)),
                    (InvalidCount, lambda: state_after(DECK, value)),
                    (InvalidCount, lambda: list(trace(DECK, value))),
                    (InvalidState, lambda: find_cycle(DECK, start=state)),
                    (InvalidCount, lambda: count_emitted(DECK, value)),
                    (UnknownCard, lambda: count_acts(DECK, value, 1)),
                    (InvalidCount, lambda: count_acts(DECK, "a", value)),
                    (InvalidCount, lambda: first_emitted(DECK, value)),
                    (InvalidCount, lambda: nth_emitted(DECK, value)),
                    (InvalidState, lambda: predecessors(DECK, state)),
                    (InvalidState, lambda: comes_again(DECK, state)),
                    (InvalidState, lambda: reaches(DECK, STATE, state)),
                    (InvalidCode, lambda: decode([68, 3, value])),
                    (InvalidValues, lambda: find_orders(DECK, [value])),
                    (InvalidValue, lambda: Watcher(DECK).see_value(value)),
                    (InvalidValue, lambda: Watcher(DECK).see_values(1, value)),
                    (InvalidCount, lambda: Watcher(DECK).see_card(value, "a")),
                    (InvalidCount, lambda: Desk(DECK).step(value)),
                    (InvalidValue, lambda: Desk(DECK).poke("p", value)),
                    (InvalidCount, lambda: Desk(DECK).lift("a", value)),
                    (InvalidCount, lambda: Desk(DECK).batch([("step", value)])),
                    (InvalidOperation, lambda: format_session(DECK, [("step", value)])),
                    (InvalidSession, lambda: parse_session(value))):
                with self.assertRaises(error):
                    call()

    def test_results_are_integers_where_they_should_be(self):
        for value in (count_emitted(DECK, 5), count_acts(DECK, "a", 5), measure(DECK), reaches(DECK, STATE, STATE),
                      Watcher(DECK).see_value(1), Watcher(DECK).see_card(0, "a"), Watcher(DECK).best_position(),
                      Desk(DECK).steps_done):
            self.assertIs(value.__class__, int)

    def test_repeated_calls_give_the_same_new_lists(self):
        for number, call in enumerate(CALLS):
            with self.subTest(number=number):
                first, expected = call(), repr(call())
                if isinstance(first, list):
                    first.append("more")
                    first.reverse()
                self.assertEqual(repr(call()), expected)

    def test_all_errors_are_deck_errors_with_a_message(self):
        for call in (lambda: format_deck(""), lambda: decode([]), lambda: Desk.replay(DECK, None),
                     lambda: parse_session(""), lambda: Desk(DECK).restore("x"), lambda: find_orders(DECK, None)):
            with self.assertRaises(DeckError) as caught:
                call()
            self.assertIsInstance(caught.exception, ValueError)

    def test_first_argument_with_an_error_counts(self):
        desk, watcher = Desk(DECK), Watcher(DECK)
        for error, call in ((InvalidCount, lambda: state_after(DECK, -1, start=0)),
                            (UnknownCard, lambda: count_acts(DECK, "x", -1, start=0)),
                            (InvalidCount, lambda: count_acts(DECK, "a", -1, start=0)),
                            (InvalidCount, lambda: watcher.see_card(-1, "x")),
                            (UnknownCard, lambda: desk.lift("x", -1)),
                            (SyntaxFault, lambda: find_orders("", None)),
                            (SyntaxFault, lambda: Desk.replay("", None)),
                            (SyntaxFault, lambda: format_session("", None)),
                            (SyntaxFault, lambda: reaches("", None, None))):
            with self.assertRaises(DeckError) as caught:
                call()
            self.assertIs(caught.exception.__class__, error)


if __name__ == "__main__":
    unittest.main()
