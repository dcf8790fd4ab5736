"""Tests of deckwork.comparison (points 1 and 9)."""

import unittest

from deckwork.comparison import are_equal, first_difference
from deckwork.errors import CheckFault, SyntaxFault, TooLong
from tests import reference
from tests.test_machine import LONG, TAIL

SILENT = "wrap 2; a: -> 0;"


def make_cycle(values, wrap=10):
    """Return a deck of up to 8 cards that emits the values, up to 48, again and again."""
    rows = [values[at:at + 6] for at in range(0, len(values), 6)]
    cards = [f"{name}: " + ", ".join(f"emit {value}" for value in row) + " -> 9;" for name, row in zip("abcdefgh", rows)]
    return f"wrap {wrap}; " + " ".join(cards)


def make_end(values, wrap=10):
    """Return a deck of up to 8 cards that emits the values, up to 42, and then nothing any more."""
    return make_cycle(values, wrap) + " z: -> 0;"


def list_values(deck, many):
    """Return the first values of a short deck, its steps made one by one, then None where there are no more."""
    parsed = reference.read_deck(deck)
    state = reference.first_state(parsed)
    values, silence = [], 0
    while len(values) < many and silence <= 3000:
        state, _, emitted, _ = reference.make_step(parsed, state)
        silence = 0 if emitted else silence + 1
        values.extend(emitted)
    return (values + [None] * many)[:many]


def find_difference(first, second):
    """Return the first difference of two lists of values of the same length."""
    for number, (value, other) in enumerate(zip(first, second, strict=True)):
        if value != other:
            return number, value, other
    return None


class FirstDifferenceTest(unittest.TestCase):
    def assert_difference(self, first, second, expected):
        with self.subTest(first=first, second=second):
            self.assertEqual(first_difference(first, second), expected)
            self.assertIs(are_equal(first, second), expected is None)
            turned = None if expected is None else (expected[0], expected[2], expected[1])
            self.assertEqual(first_difference(second, first), turned)
            self.assertIs(are_equal(second, first), expected is None)

    def test_example(self):
        self.assert_difference("wrap 3; a: add p 1, emit p -> 0;", "wrap 3; a: emit 1 -> 0;", (1, 2, 1))

    def test_the_first_value(self):
        self.assert_difference(make_cycle([1, 2, 3]), make_cycle([4, 2, 3]), (0, 1, 4))
        self.assert_difference(make_end([0]), make_end([1]), (0, 0, 1))

    def test_a_late_value(self):
        values = list(range(8)) * 6
        self.assert_difference(make_cycle(values), make_cycle(values[:-1] + [9]), (47, 7, 9))
        # b acts after each 16 steps of a, and c when b has done so 16 times.
        deck = "wrap 16; a: emit 0, add p 1 -> p ? 1 : 0; b: add q 1, emit 0 -> q ? 9 : 1; c: emit 1 -> 9;"
        self.assert_difference(deck, "wrap 2; a: emit 0 -> 0;", (288, 1, 0))

    def test_values_behind_both_beginnings_and_periods(self):
        # Periods of 47 and 48 values that agree as long as such can without agreeing for ever.
        one = [0] * 46 + [1]
        other = [0] * 46 + [1, 0]
        self.assert_difference(make_cycle(one), make_cycle(other), (93, 1, 0))
        one = [0, 1, 0, 0, 1, 0, 1, 0]
        other = [0, 1, 0, 0, 1]
        expected = find_difference(one * 5, other * 8)
        self.assertEqual(expected[0], 8 + 5 - 2)
        self.assert_difference(make_cycle(one), make_cycle(other), expected)

    def test_how_many_they_emit(self):
        self.assert_difference(make_end([1, 2, 3]), make_end([1, 2, 3, 4]), (3, None, 4))
        self.assert_difference(make_end([1, 2, 3]), make_cycle([1, 2, 3]), (3, None, 1))
        self.assert_difference(make_end([1, 1, 1, 1]), make_cycle([1]), (4, None, 1))
        self.assert_difference(make_end([]), make_end([0]), (0, None, 0))
        self.assert_difference(SILENT, make_cycle([0]), (0, None, 0))
        self.assert_difference(make_end(list(range(7)) * 6), make_cycle(list(range(7))), (42, None, 0))

    def test_a_value_before_the_number(self):
        self.assert_difference(make_end([1, 2, 3]), make_end([1, 5, 3, 4]), (1, 2, 5))

    def test_not_at_all(self):
        self.assert_difference(SILENT, "wrap 16; b: add p 1 -> 0; c: emit 1 -> 0;", None)
        self.assert_difference(make_end([1, 2, 3]), make_end([1, 2, 3], wrap=16), None)
        self.assert_difference(make_end([4] * 7), "wrap 8; a: emit 4, add p 1 -> p ? 9 : 0; b: emit 4 -> 9; c: -> 0;",
                               (7, None, 4))
        self.assert_difference(make_end([4] * 9), "wrap 8; a: emit 4, add p 1 -> p ? 9 : 0; b: emit 4 -> 9; c: -> 0;",
                               None)

    def test_the_same_values_with_other_periods_and_beginnings(self):
        for one, other in ((1, 2), (2, 3), (4, 6), (5, 15), (16, 8)):
            with self.subTest(one=one, other=other):
                self.assert_difference(make_cycle([1, 2, 3] * one), make_cycle([1, 2, 3] * other), None)
        beginning = "wrap 3; a: emit 0 -> 9; b: emit 1 -> 1; c: emit 0 -> 1;"
        self.assert_difference(beginning, "wrap 3; a: emit 0, emit 1 -> 0;", None)
        self.assert_difference(beginning, "wrap 3; a: emit 0, emit 1, emit 1 -> 0;", (2, 0, 1))

    def test_a_deck_with_itself(self):
        for deck in (SILENT, make_cycle([1, 2]), make_end([1, 2])):
            self.assert_difference(deck, deck, None)

    def test_kind(self):
        self.assertIs(type(first_difference(SILENT, make_cycle([0]))), tuple)

    def test_many_decks(self):
        decks = [reference.make_deck(seed) for seed in range(80)]
        decks = [deck for deck in decks if reference.find_cycle(deck) is not None]
        # No two of these decks differ for the first time behind so many values.
        values = {deck: list_values(deck, 2000) for deck in decks}
        for number, first in enumerate(decks):
            for second in decks[number:number + 12]:
                self.assert_difference(first, second, find_difference(values[first], values[second]))


class AreEqualTest(unittest.TestCase):
    def test_example(self):
        self.assertIs(are_equal("wrap 2; a: emit 1 -> 0;", "wrap 9; b: emit 1, emit 1 -> 0;"), True)

    def test_difference(self):
        self.assertIs(are_equal("wrap 2; a: emit 1 -> 0;", "wrap 9; b: emit 1, emit 2 -> 0;"), False)
        self.assertIs(are_equal("wrap 2; a: emit 0 -> 0;", SILENT), False)


class ErrorsTest(unittest.TestCase):
    def assert_raises(self, error, first, second):
        for compare in (first_difference, are_equal):
            with self.subTest(first=first, second=second), self.assertRaises(error) as caught:
                compare(first, second)
        return caught.exception

    def test_too_long(self):
        for deck in (LONG, TAIL):
            for other in (SILENT, make_cycle([1]), LONG, TAIL):
                self.assert_raises(TooLong, deck, other)
                self.assert_raises(TooLong, other, deck)

    def test_both_decks_are_parsed_before(self):
        for deck in (LONG, SILENT):
            self.assert_raises(SyntaxFault, deck, "wrap 1; a: -> 0")
            self.assert_raises(SyntaxFault, "wrap 1; a: -> 0", deck)
            self.assert_raises(CheckFault, deck, "wrap 1; a: -> 0;")
            self.assert_raises(CheckFault, "wrap 1; a: -> 0;", deck)

    def test_the_first_deck_before_the_second_one(self):
        fault = self.assert_raises(SyntaxFault, "wrap 3; p: -> 0;", "wrap 3; a: -> q q;")
        self.assertEqual((fault.line, fault.column), (0, 8))
        fault = self.assert_raises(CheckFault, "wrap 3; a: -> 10;", "wrap 1; a: -> 0;")
        self.assertEqual((fault.reason, fault.line, fault.column), ("number", 0, 14))
        self.assert_raises(CheckFault, "wrap 1; a: -> 0;", "wrap 3; p: -> 0;")
        self.assert_raises(SyntaxFault, "wrap 3; p: -> 0;", "wrap 1; a: -> 0;")


if __name__ == "__main__":
    unittest.main()
