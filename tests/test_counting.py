"""Tests of deckwork.counting (points 1, 6 and 7)."""

import unittest

from deckwork.counting import count_acts, count_emitted, first_emitted, idle_cards, nth_emitted
from deckwork.errors import CheckFault, InvalidCount, InvalidState, SyntaxFault, TooLong, UnknownCard
from tests import reference
from tests.test_machine import DECK, LONG, NO_COUNTS, NO_STATES, TAIL, ZERO

MOST = 10 ** 18
START = (("c", "a", "b"), (1, 0, 0, 0))
# Emits 0 to 6 again and again, one value in each step of a; b takes the other steps.
WHEEL = "wrap 7; a: emit p, add p 1 -> 1; b: -> 1;"
# Emits 1, 2, 2, 2, then 0 and 4 in each step.
BEGINNING = "wrap 5; a: emit 1, emit 2, emit 2, emit 2 -> 9; b: emit 0, emit 4 -> 0;"
# Emits nothing in 3 steps, then 3 and 1, then nothing any more.
ENDING = "wrap 5; a: -> 9; b: -> 9; c: -> 9; d: emit 3, emit 1 -> 9; e: -> 0;"
# Its cycle of several steps has no value.
SILENT = "wrap 5; a: emit 4 -> 9; b: add p 1 -> 1; c: -> 1;"
NO_NAMES = (None, True, False, 0, 1, "", "d", "A", "a ", "ab", "p", "add", (), ("a",), [], ["a"], [["a"]], (("a",),))
NO_NUMBERS = NO_COUNTS + ([3], (0, 1), "10", None)


def list_places(deck, steps, start=None):
    """Return the tuples (step, value) of all values of so many steps, made one by one."""
    made = reference.run(deck, steps, start)[1]
    return [(step, value) for step, (_, emitted, _) in enumerate(made) for value in emitted]


def short_decks(many):
    """Return some decks that are short."""
    decks = [reference.make_deck(seed) for seed in range(many)]
    return [deck for deck in decks if reference.find_cycle(deck) is not None]


class CountEmittedTest(unittest.TestCase):
    def test_example(self):
        self.assertEqual(count_emitted(DECK, MOST), 3)

    def test_first_steps(self):
        self.assertEqual([count_emitted(DECK, count) for count in range(8)], [0, 1, 1, 2, 2, 3, 3, 3])

    def test_several_values_in_a_step(self):
        self.assertEqual([count_emitted(BEGINNING, count) for count in range(5)], [0, 4, 6, 8, 10])
        self.assertEqual(count_emitted(BEGINNING, MOST), 4 + 2 * (MOST - 1))

    def test_around_the_limit_of_short_decks(self):
        for count in (0, 1, 2999, 3000, 3001, 3002):
            with self.subTest(count=count):
                self.assertEqual(count_emitted(WHEEL, count), (count + 1) // 2)
                self.assertEqual(count_emitted(BEGINNING, count), 2 + 2 * count if count else 0)

    def test_many_steps(self):
        self.assertEqual(count_emitted(WHEEL, MOST), MOST // 2)
        self.assertEqual(count_emitted(WHEEL, MOST - 1), MOST // 2)
        self.assertEqual(count_emitted(WHEEL, MOST - 2), MOST // 2 - 1)
        self.assertEqual(count_emitted(ENDING, MOST), 2)
        self.assertEqual(count_emitted(SILENT, MOST), 1)
        self.assertEqual(count_emitted("wrap 2; a: -> 0;", MOST), 0)
        self.assertEqual(count_emitted("wrap 2; a: emit p, emit 0, emit 1, emit q, emit r, emit s -> 0;", MOST), 6 * MOST)

    def test_from_a_start(self):
        self.assertEqual(count_emitted(DECK, 2, start=START), 1)
        self.assertEqual(count_emitted(DECK, 2, start=None), 1)
        self.assertEqual(count_emitted(BEGINNING, 3001, start=(("b", "a"), ZERO)), 6002)

    def test_invalid_counts(self):
        for count in NO_NUMBERS + (MOST + 1, 10 ** 30):
            with self.subTest(count=count), self.assertRaises(InvalidCount):
                count_emitted(DECK, count)

    def test_too_long(self):
        for deck in (LONG, TAIL):
            for count in (3001, MOST):
                with self.subTest(deck=deck, count=count), self.assertRaises(TooLong):
                    count_emitted(deck, count)

    def test_up_to_3000_steps_are_never_too_long(self):
        for deck in (LONG, TAIL):
            for count in (0, 1, 2999, 3000):
                with self.subTest(deck=deck, count=count):
                    self.assertEqual(count_emitted(deck, count), len(list_places(deck, count)))

    def test_short_from_another_start(self):
        start = reference.run(LONG, 1278)[0]
        self.assertEqual(count_emitted(LONG, 3001, start=start), len(list_places(LONG, 3001, start)))
        with self.assertRaises(TooLong):
            count_emitted(LONG, 3001, start=reference.run(LONG, 1277)[0])

    def test_many_decks(self):
        for deck in short_decks(80):
            with self.subTest(deck=deck):
                self.assertEqual(count_emitted(deck, 3456), len(list_places(deck, 3456)))
                start = reference.run(deck, 7)[0]
                self.assertEqual(count_emitted(deck, 3456, start=start), len(list_places(deck, 3456, start)))


class CountActsTest(unittest.TestCase):
    def test_example(self):
        self.assertEqual(count_acts(DECK, "c", 10), 5)

    def test_first_steps(self):
        self.assertEqual([count_acts(DECK, "a", count) for count in range(8)], [0, 1, 1, 2, 2, 3, 3, 3])
        self.assertEqual([count_acts(DECK, "b", count) for count in range(8)], [0, 0, 1, 1, 2, 2, 2, 2])
        self.assertEqual([count_acts(DECK, "c", count) for count in range(8)], [0, 0, 0, 0, 0, 0, 1, 2])

    def test_around_the_limit_of_short_decks(self):
        for count in (0, 1, 2999, 3000, 3001, 3002):
            with self.subTest(count=count):
                self.assertEqual(count_acts(WHEEL, "a", count), (count + 1) // 2)
                self.assertEqual(count_acts(WHEEL, "b", count), count // 2)
                self.assertEqual(count_acts(BEGINNING, "a", count), min(count, 1))

    def test_many_steps(self):
        self.assertEqual(count_acts(WHEEL, "a", MOST - 1), MOST // 2)
        self.assertEqual(count_acts(WHEEL, "b", MOST - 1), MOST // 2 - 1)
        self.assertEqual(count_acts(ENDING, "e", MOST), MOST - 4)
        self.assertEqual(count_acts(ENDING, "d", MOST), 1)
        self.assertEqual(count_acts("wrap 2; a: -> 0; b: -> 0;", "b", MOST), 0)

    def test_from_a_start(self):
        self.assertEqual(count_acts(DECK, "c", 1, start=START), 1)
        self.assertEqual(count_acts(DECK, "c", 1, start=None), 0)
        self.assertEqual(count_acts("wrap 2; a: -> 0; b: -> 0;", "b", MOST, start=(("b", "a"), ZERO)), MOST)

    def test_unknown_cards(self):
        for name in NO_NAMES:
            with self.subTest(name=name), self.assertRaises(UnknownCard):
                count_acts(DECK, name, 1)

    def test_a_list_is_not_modified(self):
        name = ["a"]
        with self.assertRaises(UnknownCard):
            count_acts(DECK, name, 1)
        self.assertEqual(name, ["a"])

    def test_invalid_counts(self):
        for count in NO_NUMBERS + (MOST + 1, 10 ** 30):
            with self.subTest(count=count), self.assertRaises(InvalidCount):
                count_acts(DECK, "a", count)

    def test_too_long(self):
        for deck in (LONG, TAIL):
            for count in (3001, MOST):
                with self.subTest(deck=deck, count=count), self.assertRaises(TooLong):
                    count_acts(deck, "a", count)

    def test_up_to_3000_steps_are_never_too_long(self):
        for deck in (LONG, TAIL):
            for count in (0, 1, 2999, 3000):
                acting = [name for name, _, _ in reference.run(deck, count)[1]]
                for name in "abcd":
                    with self.subTest(deck=deck, count=count, name=name):
                        self.assertEqual(count_acts(deck, name, count), acting.count(name))

    def test_many_decks(self):
        for deck in short_decks(60):
            acting = [name for name, _, _ in reference.run(deck, 3456)[1]]
            for name in reference.read_deck(deck)[1]:
                with self.subTest(deck=deck, name=name):
                    self.assertEqual(count_acts(deck, name, 3456), acting.count(name))
                    self.assertEqual(count_acts(deck, name, 1234), acting[:1234].count(name))


class FirstEmittedTest(unittest.TestCase):
    def test_example(self):
        self.assertEqual(first_emitted(DECK, 5), [1, 2, 0])

    def test_as_many_as_given(self):
        self.assertEqual(first_emitted(DECK, 0), [])
        self.assertEqual(first_emitted(DECK, 2), [1, 2])
        self.assertEqual(first_emitted(DECK, 3), [1, 2, 0])
        self.assertEqual(first_emitted(BEGINNING, 3), [1, 2, 2])
        self.assertEqual(first_emitted(BEGINNING, 7), [1, 2, 2, 2, 0, 4, 0])
        self.assertEqual(first_emitted(WHEEL, 500), [number % 7 for number in range(500)])

    def test_nothing_any_more(self):
        self.assertEqual(first_emitted(ENDING, 500), [3, 1])
        self.assertEqual(first_emitted(ENDING, 1), [3])
        self.assertEqual(first_emitted(SILENT, 500), [4])
        self.assertEqual(first_emitted("wrap 2; a: -> 0;", 500), [])

    def test_from_a_start(self):
        self.assertEqual(first_emitted(DECK, 5, start=START), list(dict(list_places(DECK, 100, START)).values())[:5])
        self.assertEqual(first_emitted(WHEEL, 3, start=(("b", "a"), (6, 0, 0, 0))), [6, 0, 1])
        self.assertEqual(first_emitted(WHEEL, 3, start=None), [0, 1, 2])

    def test_a_new_list_for_each_call(self):
        values = first_emitted(WHEEL, 3)
        self.assertIs(type(values), list)
        values.append(9)
        values[0] = 9
        self.assertEqual(first_emitted(WHEEL, 3), [0, 1, 2])

    def test_invalid_counts(self):
        for number in NO_NUMBERS + (501, 3000, MOST):
            with self.subTest(number=number), self.assertRaises(InvalidCount):
                first_emitted(DECK, number)

    def test_too_long_for_every_number(self):
        for deck in (LONG, TAIL):
            for number in (0, 1, 500):
                with self.subTest(deck=deck, number=number), self.assertRaises(TooLong):
                    first_emitted(deck, number)

    def test_short_from_another_start(self):
        start = reference.run(LONG, 1278)[0]
        self.assertEqual(first_emitted(LONG, 500, start=start),
                         [value for _, value in list_places(LONG, 3000, start)][:500])

    def test_many_decks(self):
        for deck in short_decks(80):
            with self.subTest(deck=deck):
                values = [value for _, value in list_places(deck, 6000)]
                self.assertEqual(first_emitted(deck, 500), values[:500])
                self.assertEqual(first_emitted(deck, 33), values[:33])


class NthEmittedTest(unittest.TestCase):
    def test_example(self):
        self.assertEqual(nth_emitted(DECK, 1), (2, 2))

    def test_first_numbers(self):
        self.assertEqual([nth_emitted(DECK, number) for number in range(5)], [(0, 1), (2, 2), (4, 0), None, None])
        self.assertEqual([nth_emitted(BEGINNING, number) for number in range(8)],
                         [(0, 1), (0, 2), (0, 2), (0, 2), (1, 0), (1, 4), (2, 0), (2, 4)])

    def test_nothing_any_more(self):
        for number in (2, 3, 3001, MOST):
            self.assertIsNone(nth_emitted(ENDING, number))
        self.assertEqual(nth_emitted(ENDING, 0), (3, 3))
        self.assertEqual(nth_emitted(ENDING, 1), (3, 1))

    def test_a_cycle_without_a_value(self):
        self.assertEqual(nth_emitted(SILENT, 0), (0, 4))
        for number in (1, 2, MOST):
            self.assertIsNone(nth_emitted(SILENT, number))
        self.assertIsNone(nth_emitted("wrap 2; a: -> 0;", 0))

    def test_large_numbers(self):
        for number in (2999, 3000, 3001, MOST - 1, MOST):
            with self.subTest(number=number):
                self.assertEqual(nth_emitted(WHEEL, number), (2 * number, number % 7))
                self.assertEqual(nth_emitted(BEGINNING, number), (number // 2 - 1, 4 if number % 2 else 0))
                self.assertEqual(nth_emitted("wrap 2; a: emit 1, emit 0, emit 1 -> 0;", number),
                                 (number // 3, 0 if number % 3 == 1 else 1))

    def test_from_a_start(self):
        self.assertEqual(nth_emitted(WHEEL, MOST, start=(("b", "a"), ZERO)), (2 * MOST + 1, MOST % 7))
        self.assertEqual(nth_emitted(WHEEL, 1, start=None), (2, 1))
        self.assertEqual(nth_emitted(DECK, 0, start=START), list_places(DECK, 100, START)[0])

    def test_kind(self):
        self.assertIs(type(nth_emitted(DECK, 0)), tuple)

    def test_invalid_counts(self):
        for number in NO_NUMBERS + (MOST + 1, 10 ** 30):
            with self.subTest(number=number), self.assertRaises(InvalidCount):
                nth_emitted(DECK, number)

    def test_too_long_for_every_number(self):
        for deck in (LONG, TAIL):
            for number in (0, 1, MOST):
                with self.subTest(deck=deck, number=number), self.assertRaises(TooLong):
                    nth_emitted(deck, number)

    def test_many_decks(self):
        for deck in short_decks(80):
            places = list_places(deck, 6100)
            silent = not [place for place in places if place[0] >= 3100]
            for number in (0, 1, 2, 5, 40, 333, 3000):
                with self.subTest(deck=deck, number=number):
                    if number < len(places):
                        self.assertEqual(nth_emitted(deck, number), places[number])
                    elif silent:
                        self.assertIsNone(nth_emitted(deck, number))


class IdleCardsTest(unittest.TestCase):
    def test_example(self):
        self.assertEqual(idle_cards("wrap 2; a: -> 0; b: -> 1;"), ["b"])

    def test_order_of_the_text(self):
        self.assertEqual(idle_cards("wrap 2; z: -> 0; y: -> 1; x: -> 0; a: -> 0;"), ["y", "x", "a"])
        self.assertEqual(idle_cards("wrap 2; z: -> 0; y: -> 1; x: -> 0; a: -> 0;", start=(("x", "a", "z", "y"), ZERO)),
                         ["z", "y", "a"])

    def test_all_act(self):
        self.assertEqual(idle_cards(DECK), [])
        self.assertEqual(idle_cards("wrap 2; a: -> 9; b: -> 9;"), [])

    def test_cards_that_act_before_the_cycle_only(self):
        self.assertEqual(idle_cards(ENDING), [])
        self.assertEqual(idle_cards(ENDING, start=(("d", "e", "a", "b", "c"), ZERO)), ["a", "b", "c"])

    def test_from_a_start(self):
        deck = "wrap 2; a: -> p ? 0 : 1; b: -> 0;"
        self.assertEqual(idle_cards(deck), ["b"])
        self.assertEqual(idle_cards(deck, start=None), ["b"])
        self.assertEqual(idle_cards(deck, start=(("a", "b"), (1, 0, 0, 0))), [])

    def test_a_new_list_for_each_call(self):
        names = idle_cards("wrap 2; a: -> 0; b: -> 1;")
        self.assertIs(type(names), list)
        names.append("a")
        self.assertEqual(idle_cards("wrap 2; a: -> 0; b: -> 1;"), ["b"])

    def test_too_long(self):
        for deck in (LONG, TAIL):
            with self.subTest(deck=deck), self.assertRaises(TooLong):
                idle_cards(deck)

    def test_many_decks(self):
        for deck in short_decks(80):
            with self.subTest(deck=deck):
                acting = {name for name, _, _ in reference.run(deck, 3001)[1]}
                names = list(reference.read_deck(deck)[1])
                self.assertEqual(idle_cards(deck), [name for name in names if name not in acting])


class ErrorsTest(unittest.TestCase):
    def setUp(self):
        self.calls = (
            lambda deck, number, start: count_emitted(deck, number, start=start),
            lambda deck, number, start: count_acts(deck, "a", number, start=start),
            lambda deck, number, start: first_emitted(deck, number, start=start),
            lambda deck, number, start: nth_emitted(deck, number, start=start),
        )

    def test_invalid_starts(self):
        for start in NO_STATES:
            for call in self.calls:
                for number in (0, 1, 500):
                    with self.subTest(start=start), self.assertRaises(InvalidState):
                        call(DECK, number, start)
            with self.subTest(start=start), self.assertRaises(InvalidState):
                idle_cards(DECK, start=start)
            for call in (self.calls[0], self.calls[1], self.calls[3]):
                with self.subTest(start=start), self.assertRaises(InvalidState):
                    call(DECK, 3001, start)

    def test_order_of_the_errors(self):
        for call in self.calls:
            with self.assertRaises(SyntaxFault):
                call("wrap 1; a: -> 0", -1, 0)
            with self.assertRaises(CheckFault):
                call("wrap 1; a: -> 0;", -1, 0)
            with self.assertRaises(InvalidCount):
                call(LONG, 10 ** 18 + 1, 0)
            with self.assertRaises(InvalidState):
                call(LONG, 500, 0)
        for call in (self.calls[0], self.calls[1], self.calls[3]):
            with self.assertRaises(InvalidState):
                call(LONG, MOST, 0)

    def test_order_of_the_errors_without_a_number(self):
        with self.assertRaises(SyntaxFault):
            idle_cards("wrap 1; a: -> 0", start=0)
        with self.assertRaises(CheckFault):
            idle_cards("wrap 1; a: -> 0;", start=0)
        with self.assertRaises(InvalidState):
            idle_cards(LONG, start=0)

    def test_an_unknown_card_comes_before_the_number_and_the_start(self):
        for name in NO_NAMES:
            with self.subTest(name=name), self.assertRaises(UnknownCard):
                count_acts(LONG, "x" if name == "d" else name, MOST + 1, start=0)
        with self.assertRaises(SyntaxFault):
            count_acts("wrap 1; a: -> 0", "b", -1, start=0)
        with self.assertRaises(CheckFault):
            count_acts("wrap 1; a: -> 0;", "b", -1, start=0)

    def test_start_is_keyword_only(self):
        for call in (lambda: count_emitted(DECK, 1, START), lambda: count_acts(DECK, "a", 1, START),
                     lambda: first_emitted(DECK, 1, START), lambda: nth_emitted(DECK, 1, START),
                     lambda: idle_cards(DECK, START)):
            with self.assertRaises(TypeError):
                call()

    def test_the_same_results_again(self):
        for call in self.calls:
            self.assertEqual(call(WHEEL, 99, None), call(WHEEL, 99, None))


if __name__ == "__main__":
    unittest.main()
