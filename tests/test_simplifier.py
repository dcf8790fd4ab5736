"""Tests of deckwork.simplifier (points 1, 4 and 10)."""

import itertools
import random
import re
import unittest

from deckwork.errors import CheckFault, SyntaxFault
from deckwork.formatter import card_names, format_deck
from deckwork.simplifier import measure, simplify
from tests import reference
from tests.test_machine import DECK

LETTERS = "pqrs"


def find_faults(deck):
    """Return a list of what point 10 excludes in a canonical text."""
    faults = []
    _, cards = reference.read_deck(deck)
    for name, (actions, put) in cards.items():
        faults += [(name, action) for action in actions if is_excluded(action)]
        faults += [(name, pair) for pair in itertools.pairwise(actions) if is_excluded_pair(*pair)]
        if is_excluded_put(put, len(cards) - 1):
            faults.append((name, put))
    return faults


def is_excluded(action):
    word, *rest = action
    if word == "add":
        return rest[1] == "0"
    if word == "copy":
        return rest[0] == rest[1]
    return word == "swap" and LETTERS.index(rest[0]) >= LETTERS.index(rest[1])


def is_excluded_pair(first, second):
    words = first[0], second[0]
    if words == ("add", "add"):
        return first[1] == second[1]
    if words == ("swap", "swap"):
        return set(first[1:]) == set(second[1:])
    if words == ("copy", "copy") and first[1:] == second[:0:-1]:
        return True
    return words in (("add", "copy"), ("copy", "copy")) and first[1] == second[1] != second[2]


def is_excluded_put(put, deepest):
    numbers = [int(part) for part in put if part not in LETTERS]
    if max(numbers, default=0) > deepest or (deepest == 0 and put[0] in LETTERS):
        return True
    return len(numbers) == 2 and numbers[0] == numbers[1]


def list_states(deck, rng, most=120):
    """Return all states of a deck in which another card or another register matters, or some of them."""
    wrap, cards = reference.read_deck(deck)
    # A step depends on the registers and on the card on top only.
    orders = [(name,) + tuple(other for other in cards if other != name) for name in cards]
    memories = list(itertools.product(range(wrap), repeat=4))
    if len(memories) > most:
        memories = rng.sample(memories, most)
    return [(order, memory) for order in orders for memory in memories]


def make_chain(rng, wrap, many):
    """Return actions over few registers, so that many of them stand behind one they can be merged with."""
    letters = rng.sample(LETTERS, rng.choice([2, 2, 3, 4]))
    chain = []
    for _ in range(many):
        one, two = rng.choice(letters), rng.choice(letters)
        chain.append(rng.choice([f"add {one} {rng.randrange(wrap)}", f"copy {one} {two}", f"copy {one} {two}",
                                 f"swap {one} {two}", f"swap {one} {two}", f"emit {one}"]))
    return ", ".join(chain)


def make_knotty_deck(seed):
    """Return a deck with much that can be simplified."""
    rng = random.Random(seed)
    wrap = rng.choice([2, 2, 3, 4, 16])
    cards = [f"{name}: {make_chain(rng, wrap, rng.randint(0, 6))} -> {reference.make_put(rng)};"
             for name in rng.sample(["a", "b", "card", "zz", "m"], rng.randint(1, 5))]
    return f"wrap {wrap}; " + " ".join(cards)


class SimplifyCase(unittest.TestCase):
    def setUp(self):
        self.rng = random.Random(0)

    def assert_actions(self, before, after, wrap=5):
        with self.subTest(before=before):
            expected = f"wrap {wrap};\na: {after}{' ' if after else ''}-> 0;"
            text = f"wrap {wrap}; a: {before} -> 0;"
            self.assertEqual(simplify(text), expected)
            self.assert_simple(text)

    def assert_put(self, before, after, many):
        others = "".join(f"\n{name}: -> 0;" for name in "bcdefgh"[:many - 1])
        text = f"wrap 5;\na: -> {before};" + others
        with self.subTest(before=before, many=many):
            self.assertEqual(simplify(text), f"wrap 5;\na: -> {after};" + others)
            self.assert_simple(text)

    def assert_simple(self, deck):
        """Check everything that point 10 says of the text that is returned for a deck."""
        simple = simplify(deck)
        self.assertEqual(find_faults(simple), [], deck)
        self.assertEqual(simplify(simple), simple, deck)
        self.assertEqual(format_deck(simple), simple, deck)
        self.assertEqual(card_names(simple), card_names(deck))
        self.assertEqual(simple.split("\n")[0], format_deck(deck).split("\n")[0])
        self.assertLessEqual(measure(simple), measure(deck), deck)
        one, other = reference.read_deck(deck), reference.read_deck(simple)
        for state in list_states(deck, self.rng):
            # The same registers, too: so all steps that follow are the same.
            self.assertEqual(reference.make_step(other, state), reference.make_step(one, state), deck)


class ActionsTest(SimplifyCase):
    def test_add_of_0(self):
        self.assert_actions("add p 0", "")
        self.assert_actions("emit p, add s 0, emit p", "emit p, emit p")

    def test_copy_and_swap_of_equal_registers(self):
        for letter in LETTERS:
            self.assert_actions(f"copy {letter} {letter}", "")
            self.assert_actions(f"swap {letter} {letter}", "")
        self.assert_actions("emit 1, copy q q, swap r r, emit 2", "emit 1, emit 2")

    def test_registers_of_a_swap(self):
        for one, two in itertools.combinations(LETTERS, 2):
            self.assert_actions(f"swap {two} {one}", f"swap {one} {two}")
            self.assert_actions(f"swap {one} {two}", f"swap {one} {two}")

    def test_two_adds(self):
        self.assert_actions("add p 1, add p 2", "add p 3")
        self.assert_actions("add s 4, add s 3", "add s 2")
        self.assert_actions("add q 4, add q 1", "")
        self.assert_actions("add p 1, add p 1, add p 1, add p 1, add p 1, add p 1", "add p 1")

    def test_two_adds_that_must_stay(self):
        self.assert_actions("add p 1, add q 1, add p 1", "add p 1, add q 1, add p 1")
        self.assert_actions("add p 1, emit p, add p 1", "add p 1, emit p, add p 1")

    def test_two_swaps(self):
        self.assert_actions("swap p q, swap p q", "")
        self.assert_actions("swap p q, swap q p", "")
        self.assert_actions("swap q p, swap p q", "")
        self.assert_actions("swap s r, swap r s, swap s r", "swap r s")

    def test_two_swaps_that_must_stay(self):
        self.assert_actions("swap p q, swap q r", "swap p q, swap q r")
        self.assert_actions("swap p q, emit p, swap p q", "swap p q, emit p, swap p q")

    def test_copy_back(self):
        self.assert_actions("copy p q, copy q p", "copy p q")
        self.assert_actions("copy q p, copy p q", "copy q p")
        self.assert_actions("copy r s, copy s r, copy r s", "copy r s")

    def test_copies_that_must_stay(self):
        self.assert_actions("copy p q, copy q r", "copy p q, copy q r")
        self.assert_actions("copy p q, copy r p", "copy p q, copy r p")
        self.assert_actions("copy p q, emit p, copy p r", "copy p q, emit p, copy p r")

    def test_what_a_copy_replaces(self):
        self.assert_actions("add p 1, copy p q", "copy p q")
        self.assert_actions("copy p r, copy p q", "copy p q")
        self.assert_actions("copy p q, copy p q", "copy p q")
        self.assert_actions("copy p r, add p 3, copy p s, add p 2, copy p q", "copy p q")

    def test_what_a_copy_does_not_replace(self):
        self.assert_actions("add q 1, copy p q", "add q 1, copy p q")
        self.assert_actions("copy q r, copy p q", "copy q r, copy p q")
        self.assert_actions("copy p q, add p 1", "copy p q, add p 1")
        self.assert_actions("swap p q, copy p q", "swap p q, copy p q")
        self.assert_actions("add p 1, copy p p", "add p 1")

    def test_emits_stay(self):
        self.assert_actions("emit p, emit p, emit 0, emit 0, emit s", "emit p, emit p, emit 0, emit 0, emit s")

    def test_what_comes_into_being_when_another_one_is_removed(self):
        self.assert_actions("add p 1, add q 0, add p 2", "add p 3")
        self.assert_actions("add p 1, copy q q, add p 4", "")
        self.assert_actions("swap p q, add r 0, swap q p", "")
        self.assert_actions("swap p q, swap r s, swap s r, swap q p", "")
        self.assert_actions("add p 1, swap q r, swap q r, add p 2", "add p 3")
        self.assert_actions("copy p q, swap r s, swap r s, copy q p", "copy p q")
        self.assert_actions("copy q p, add p 3, copy p q", "copy q p")
        self.assert_actions("copy p q, add q 1, add q 4, copy q p", "copy p q")
        self.assert_actions("add p 2, copy q r, copy q p, copy p q", "add p 2, copy q p")
        self.assert_actions("add p 2, copy p q, copy q p, copy p r", "copy p r")
        self.assert_actions("copy p q, add p 1, add p 4, copy p r", "copy p r")
        self.assert_actions("swap p q, add p 1, copy p q, swap p q, swap p q", "swap p q, copy p q")
        self.assert_actions("add p 1, add q 2, add q 3, add p 4", "")

    def test_all_short_rows_of_actions(self):
        actions = [f"add {one} {number}" for one in "pq" for number in range(2)]
        actions += [f"{word} {one} {two}" for word in ("copy", "swap") for one in "pqr" for two in "pqr"] + ["emit p"]
        for many in (1, 2):
            for row in itertools.product(actions, repeat=many):
                self.assert_simple(f"wrap 2; a: {', '.join(row)} -> p;")
        rows = list(itertools.product(actions, repeat=3))
        for row in self.rng.sample(rows, 1500):
            self.assert_simple(f"wrap 2; a: {', '.join(row)} -> p;")


class PutsTest(SimplifyCase):
    def test_numbers(self):
        for many in range(1, 9):
            for number in range(10):
                self.assert_put(str(number), str(min(number, many - 1)), many)

    def test_choices(self):
        for many in range(2, 9):
            for first in range(10):
                for second in range(10):
                    one, two = min(first, many - 1), min(second, many - 1)
                    after = f"r ? {one} : {two}" if one != two else str(one)
                    self.assert_put(f"r ? {first} : {second}", after, many)

    def test_registers(self):
        for letter in LETTERS:
            for many in range(2, 9):
                self.assert_put(letter, letter, many)

    def test_a_single_card(self):
        for put in ("p", "q", "r", "s", "p ? 0 : 1", "s ? 9 : 0", "q ? 3 : 3", "0", "1", "9"):
            self.assert_put(put, "0", 1)


class SimplifyTest(SimplifyCase):
    def test_example(self):
        self.assertEqual(simplify("wrap 3; a: add p 1, add p 2, swap q p, swap p q -> p ? 1 : 1; b: -> 9;"),
                         "wrap 3;\na: -> 1;\nb: -> 1;")

    def test_nothing_to_simplify(self):
        self.assertEqual(simplify(DECK), format_deck(DECK))

    def test_order_of_the_cards(self):
        self.assertEqual(simplify("wrap 2; z: -> 9; a: add p 0 -> 9; m: swap s r -> s ? 2 : 9;"),
                         "wrap 2;\nz: -> 2;\na: -> 2;\nm: swap r s -> 2;")

    def test_numbers_are_modulo_the_wrap_number(self):
        for wrap in range(2, 17):
            self.assert_actions(f"add p {wrap - 1}, add p {wrap - 1}", f"add p {wrap - 2}" if wrap > 2 else "", wrap)

    def test_many_decks(self):
        for seed in range(300):
            self.assert_simple(make_knotty_deck(seed))

    def test_many_other_decks(self):
        for seed in range(100):
            self.assert_simple(reference.make_deck(seed))

    def test_the_same_steps_from_the_start(self):
        for seed in range(50):
            deck = make_knotty_deck(seed)
            self.assertEqual(reference.run(simplify(deck), 100), reference.run(deck, 100), deck)

    def test_the_tests_notice_what_is_excluded(self):
        for card in ("add p 0 ->", "copy p p ->", "swap p p ->", "swap q p ->", "add p 1, add p 1 ->",
                     "swap p q, swap p q ->", "copy p q, copy q p ->", "add p 1, copy p q ->", "copy p r, copy p q ->"):
            self.assertEqual(len(find_faults(f"wrap 2;\na: {card} 0;")), 1, card)
        for put in ("1", "p", "p ? 0 : 0", "p ? 0 : 1"):
            self.assertEqual(len(find_faults(f"wrap 2;\na: -> {put};")), 1, put)
        self.assertEqual(len(find_faults("wrap 2;\na: -> p ? 2 : 0;\nb: -> p ? 1 : 1;")), 2)
        self.assertEqual(find_faults(format_deck(DECK)), [])

    def test_faults(self):
        with self.assertRaises(SyntaxFault):
            simplify("wrap 1; a: -> 0")
        with self.assertRaises(CheckFault):
            simplify("wrap 1; a: -> 0;")


class MeasureTest(unittest.TestCase):
    def test_example(self):
        self.assertEqual(measure(DECK), 3)

    def test_actions_of_all_cards(self):
        self.assertEqual(measure("wrap 2; a: -> 0;"), 0)
        self.assertEqual(measure("wrap 2; a: -> 0; b: emit 1 -> p; c: -> p ? 1 : 2;"), 1)
        six = ", ".join(["add p 0"] * 6)
        self.assertEqual(measure("wrap 2;" + "".join(f"{name}: {six} -> 0;" for name in "abcdefgh")), 48)

    def test_each_action_counts(self):
        self.assertEqual(measure("wrap 2; a: add p 0, copy q q, swap r r, emit s, emit 0 -> 0;"), 5)

    def test_many_decks(self):
        for seed in range(50):
            deck = reference.make_deck(seed)
            self.assertEqual(measure(deck), len(re.findall("add |copy |swap |emit ", deck)), deck)

    def test_faults(self):
        with self.assertRaises(SyntaxFault):
            measure("wrap 1; a: -> 0")
        with self.assertRaises(CheckFault):
            measure("wrap 1; a: -> 0;")


if __name__ == "__main__":
    unittest.main()
