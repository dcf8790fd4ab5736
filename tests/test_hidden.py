"""Tests of deckwork.hidden (points 1 and 13)."""

import itertools
import random
import unittest

from deckwork.errors import (CheckFault, Contradiction, InvalidCount, InvalidValue, InvalidValues, SyntaxFault,
                             TooLong, TooManyOrders, UnknownCard)
from deckwork.hidden import Watcher, find_orders
from tests import reference
from tests.test_machine import LONG, ZERO

ABC = "wrap 3; a: emit 1 -> 1; b: emit 2 -> 2; c: -> 0;"
# Its cards come in the order of the text, not in that of the alphabet.
ZAM = "wrap 4; z: emit 1 -> 9; a: emit 2 -> 9; m: emit 3 -> 9;"
ONE = "wrap 2; a: emit p, add p 1 -> 0;"
SILENT = "wrap 2; a: -> 0; b: -> 1;"
FIVE = "wrap 6; e: emit 0 -> 9; d: emit 1 -> 9; c: emit 2 -> 9; b: emit 3 -> 9; a: emit 4 -> 9;"
SIX = "wrap 2; a: -> 0; b: -> 0; c: -> 0; d: -> 0; e: -> 0; f: -> 0;"
# It is short from the order of its text (one state), but not from d, b, a, c.
ONE_LONG = ("wrap 11; a: swap q s, emit p, swap q q -> p; b: swap p s, copy r r -> p; "
            "c: emit s, add s 4, emit p -> p; d: add r 2, add s 6, emit 3 -> 9;")
NO_VALUES = (True, False, -1, "", "1", (), (1,), [], [1], [[]], 10 ** 30)
NO_CARDS = (None, True, False, 0, 1, "", "d", "A", "ab", "p", (), ("a",), [], ["a"])
NO_POSITIONS = (None, True, False, "", "0", (), (0,), [], [0], -1, 10 ** 30)


def emitted_first(deck, order, most):
    """Return the first values that a deck emits from an order; Nones follow the last one."""
    state = (order, ZERO)
    before, again = reference.find_cycle(deck, state)
    steps = reference.run(deck, before + again * most, state)[1]
    values = [value for _, emitted, _ in steps for value in emitted]
    return (values + [None] * most)[:most]


def try_all_orders(deck, most):
    """Return {order: its first values} for all orders, in their order."""
    return {order: emitted_first(deck, order, most)
            for order in itertools.permutations(reference.read_deck(deck)[1])}


def make_hidden_deck(seed):
    """Return a deck of at most five cards, or None if it is not short for some order."""
    rng = random.Random(seed)
    wrap = rng.choice([2, 3, 4])
    lines = [f"wrap {wrap};"]
    for name in rng.sample(["z", "b", "card", "x", "pp"], rng.randint(1, 5)):
        actions = ", ".join(reference.make_action(rng, wrap) for _ in range(rng.choice([0, 1, 1, 2])))
        lines.append(f"{name}: {actions} -> {reference.make_put(rng)};")
    deck = "\n".join(lines)
    orders = itertools.permutations(reference.read_deck(deck)[1])
    return deck if all(reference.find_cycle(deck, (order, ZERO), 500) for order in orders) else None


def hidden_decks(many):
    """Return some decks that are short for all orders."""
    return [deck for deck in map(make_hidden_deck, range(many)) if deck is not None]


def agrees(order, values, observations):
    """Return whether an order that emits these values agrees with all observations."""
    seen = [observed[1] for observed in observations if observed[0] == "value"]
    if values[:len(seen)] != seen:
        return False
    return all(order[observed[1]] == observed[2] for observed in observations if observed[0] == "card")


def describe(watcher):
    """Return all that a watcher tells; the lists are copies, which later changes do not reach."""
    return (list(watcher.candidates()), list(watcher.next_values()), watcher.known_cards(), watcher.best_position(),
            list(watcher.history()))


def expect(table, observations):
    """Return all that a watcher tells after these observations, from all orders tried one by one."""
    left = [order for order, values in table.items() if agrees(order, values, observations)]
    number = sum(observed[0] == "value" for observed in observations)
    follow = {table[order][number] for order in left}
    values = sorted(follow - {None}) + [None] * (None in follow)
    known = tuple(names[0] if len(set(names)) == 1 else None for names in zip(*left))
    worst = [max(names.count(name) for name in names) for names in zip(*left)]
    return (left, values, known, worst.index(min(worst)), observations)


class FindOrdersTest(unittest.TestCase):
    def test_example(self):
        self.assertEqual(find_orders(ABC, [2]), [("b", "a", "c"), ("b", "c", "a")])

    def test_no_values(self):
        self.assertEqual(find_orders(ABC, []), list(itertools.permutations("abc")))

    def test_order_of_the_cards_in_the_text(self):
        self.assertEqual(find_orders(ZAM, []), list(itertools.permutations("zam")))
        self.assertEqual(find_orders(ZAM, [3]), [("m", "z", "a"), ("m", "a", "z")])
        self.assertEqual(find_orders(ZAM, [3, 2, 1, 3, 2, 1, 3]), [("m", "a", "z")])
        self.assertEqual(find_orders(ZAM, [3, 3]), [])

    def test_one_card(self):
        self.assertEqual(find_orders(ONE, [0, 1, 0]), [("a",)])
        self.assertEqual(find_orders(ONE, [1]), [])

    def test_more_values_than_are_emitted(self):
        self.assertEqual(find_orders(ABC, [1, 2]), [("a", "b", "c")])
        self.assertEqual(find_orders(ABC, [1, 2, 1]), [("a", "b", "c")])
        self.assertEqual(find_orders(SILENT, []), [("a", "b"), ("b", "a")])
        self.assertEqual(find_orders(SILENT, [0]), [])
        self.assertEqual(find_orders("wrap 2; a: emit 1 -> 1; b: -> 0;", [1, 1]), [])

    def test_five_cards(self):
        self.assertEqual(find_orders(FIVE, []), list(itertools.permutations("edcba")))
        self.assertEqual(find_orders(FIVE, [4, 3, 2]), [("a", "b", "c", "e", "d"), ("a", "b", "c", "d", "e")])

    def test_up_to_100_values(self):
        values = [number % 2 for number in range(101)]
        self.assertEqual(find_orders(ONE, values[:100]), [("a",)])
        self.assertEqual(find_orders(ONE, values[:99] + [0]), [])
        for given in (values, values + values, [5] * 101):
            with self.assertRaises(InvalidValues):
                find_orders(ONE, given)

    def test_against_all_orders(self):
        found = 0
        for deck in hidden_decks(40):
            table = try_all_orders(deck, 6)
            for values in table.values():
                for many in range(7):
                    given = values[:many]
                    if None not in given:
                        expected = [order for order in table if table[order][:many] == given]
                        self.assertEqual(find_orders(deck, given), expected, (deck, given))
                        found += len(expected) > 1
        self.assertGreater(found, 300)

    def test_invalid_values(self):
        for values in (None, True, 0, 1, "", "1", (), (1,), ((1,),), 10 ** 30):
            with self.subTest(values=values), self.assertRaises(InvalidValues):
                find_orders(ABC, values)
        for value in NO_VALUES + (None, 3):
            for values in ([value], [1, value], [value, 1], [0] * 99 + [value]):
                with self.subTest(values=values), self.assertRaises(InvalidValues):
                    find_orders(ABC, values)

    def test_too_many_orders(self):
        for deck in (SIX, SIX + " g: -> 0;", SIX + " g: -> 0; h: -> 0;"):
            with self.subTest(deck=deck), self.assertRaises(TooManyOrders):
                find_orders(deck, [])

    def test_too_long_for_some_order(self):
        self.assertEqual(reference.find_cycle(ONE_LONG), (0, 1))
        orders = [order for order in itertools.permutations("abcd")
                  if reference.find_cycle(ONE_LONG, (order, ZERO)) is None]
        self.assertEqual(orders, [("d", "b", "a", "c")])
        for values in ([], [0], [10] * 100):
            with self.assertRaises(TooLong):
                find_orders(ONE_LONG, values)

    def test_order_of_errors(self):
        with self.assertRaises(SyntaxFault) as caught:
            find_orders("wrap 2; p: -> 0;", None)
        self.assertEqual((caught.exception.line, caught.exception.column), (0, 8))
        with self.assertRaises(SyntaxFault):
            find_orders(None, None)
        with self.assertRaises(CheckFault) as caught:
            find_orders(SIX + " a: -> 0;", None)
        self.assertEqual(caught.exception.reason, "duplicate")
        with self.assertRaises(TooManyOrders):
            find_orders(SIX, None)
        with self.assertRaises(TooManyOrders):
            find_orders(LONG + " e: -> 0; f: -> 0;", [])
        for values in (None, [11], [True], [0] * 101):
            with self.assertRaises(InvalidValues):
                find_orders(ONE_LONG, values)

    def test_lists_are_new_and_not_modified(self):
        values = [2]
        found = find_orders(ABC, values)
        found.clear()
        self.assertEqual(values, [2])
        self.assertEqual(find_orders(ABC, values), [("b", "a", "c"), ("b", "c", "a")])


class WatcherExamplesTest(unittest.TestCase):
    def setUp(self):
        self.watcher = Watcher(ABC)

    def test_see_value(self):
        self.assertEqual(self.watcher.see_value(1), 2)

    def test_see_value_contradiction(self):
        with self.assertRaises(Contradiction):
            self.watcher.see_value(0)

    def test_see_values(self):
        self.assertEqual(self.watcher.see_values(1, 2), 1)

    def test_see_card(self):
        self.assertEqual(self.watcher.see_card(0, "c"), 2)

    def test_candidates(self):
        self.watcher.see_value(2)
        self.assertEqual(self.watcher.candidates(), [("b", "a", "c"), ("b", "c", "a")])

    def test_next_values(self):
        self.assertEqual(self.watcher.next_values(), [1, 2, None])

    def test_known_cards(self):
        self.watcher.see_card(0, "c")
        self.assertEqual(self.watcher.known_cards(), ("c", None, None))

    def test_best_position(self):
        self.assertEqual(self.watcher.best_position(), 0)

    def test_history(self):
        self.watcher.see_value(1)
        self.assertEqual(self.watcher.history(), [("value", 1)])


class WatcherTest(unittest.TestCase):
    def assert_refused(self, watcher, error, call, *arguments):
        before = describe(watcher)
        for _ in range(2):
            with self.assertRaises(error):
                call(*arguments)
            self.assertEqual(describe(watcher), before)

    def test_at_the_start(self):
        self.assertEqual(describe(Watcher(ZAM)),
                         (list(itertools.permutations("zam")), [1, 2, 3], (None, None, None), 0, []))
        self.assertEqual(describe(Watcher(ONE)), ([("a",)], [0], ("a",), 0, []))
        self.assertEqual(describe(Watcher(SILENT)), ([("a", "b"), ("b", "a")], [None], (None, None), 0, []))

    def test_values_one_after_another(self):
        watcher = Watcher(ZAM)
        self.assertEqual([watcher.see_value(value) for value in (3, 2, 1, 3, 2)], [2, 1, 1, 1, 1])
        self.assertEqual(watcher.candidates(), [("m", "a", "z")])
        self.assertEqual(watcher.next_values(), [1])
        self.assertEqual(watcher.history(), [("value", value) for value in (3, 2, 1, 3, 2)])

    def test_nothing_is_emitted_any_more(self):
        watcher = Watcher(ABC)
        self.assertEqual(watcher.see_value(2), 2)
        self.assertEqual(watcher.next_values(), [1, None])
        self.assertEqual(watcher.see_value(None), 1)
        self.assertEqual(describe(watcher), ([("b", "c", "a")], [None], ("b", "c", "a"), 0,
                                             [("value", 2), ("value", None)]))
        for value in (0, 1, 2):
            self.assert_refused(watcher, Contradiction, watcher.see_value, value)
        self.assertEqual(watcher.see_value(None), 1)
        self.assertEqual(watcher.see_values(None, None), 1)
        self.assertEqual(watcher.history(), [("value", 2)] + [("value", None)] * 4)

    def test_none_where_all_orders_emit(self):
        watcher = Watcher(ZAM)
        self.assert_refused(watcher, Contradiction, watcher.see_value, None)

    def test_zero_is_not_none(self):
        watcher = Watcher("wrap 2; a: emit 0 -> 0; b: -> 0;")
        self.assertEqual(watcher.next_values(), [0, None])
        self.assertEqual(watcher.see_value(0), 1)
        self.assertEqual(watcher.candidates(), [("a", "b")])
        watcher = Watcher("wrap 2; a: emit 0 -> 0; b: -> 0;")
        self.assertEqual(watcher.see_value(None), 1)
        self.assertEqual(watcher.candidates(), [("b", "a")])

    def test_many_values(self):
        watcher = Watcher(ONE)
        for number in range(250):
            self.assertEqual(watcher.see_value(number % 2), 1)
        self.assertEqual(watcher.see_values(*[number % 2 for number in range(250)]), 1)
        self.assertEqual(watcher.next_values(), [0])
        self.assertEqual(len(watcher.history()), 500)

    def test_several_values_at_once(self):
        watcher = Watcher(ZAM)
        self.assertEqual(watcher.see_values(), 6)
        self.assertEqual(watcher.history(), [])
        self.assertEqual(watcher.see_values(2), 2)
        self.assertEqual(watcher.see_values(3, 1, 2), 1)
        self.assertEqual(watcher.history(), [("value", 2), ("value", 3), ("value", 1), ("value", 2)])
        self.assertEqual(watcher.next_values(), [3])

    def test_several_values_are_accepted_together_or_not(self):
        watcher = Watcher(ZAM)
        for values, error in (((3, 2, 1, 1), Contradiction), ((3, 3), Contradiction), ((0, 3), Contradiction),
                              ((3, 2, 4), InvalidValue), ((4, 3), InvalidValue), ((3, None), Contradiction),
                              ((3, True), InvalidValue), ((False,), InvalidValue), (([3],), InvalidValue)):
            with self.subTest(values=values):
                self.assert_refused(watcher, error, watcher.see_values, *values)
        self.assertEqual(watcher.see_values(3, 2), 1)

    def test_values_behind_an_error_are_not_looked_at(self):
        watcher = Watcher(ZAM)
        self.assert_refused(watcher, Contradiction, watcher.see_values, 3, 3, "x")
        self.assert_refused(watcher, InvalidValue, watcher.see_values, 3, "x", 3)

    def test_cards(self):
        watcher = Watcher(ZAM)
        self.assertEqual(watcher.see_card(2, "z"), 2)
        self.assertEqual(describe(watcher), ([("a", "m", "z"), ("m", "a", "z")], [2, 3], (None, None, "z"), 0,
                                             [("card", 2, "z")]))
        self.assertEqual(watcher.see_card(2, "z"), 2)
        self.assertEqual(watcher.see_card(0, "m"), 1)
        self.assertEqual(watcher.known_cards(), ("m", "a", "z"))
        self.assertEqual(watcher.history(), [("card", 2, "z"), ("card", 2, "z"), ("card", 0, "m")])
        for position, name in ((0, "z"), (0, "a"), (1, "m"), (2, "a")):
            self.assert_refused(watcher, Contradiction, watcher.see_card, position, name)

    def test_cards_are_those_at_the_start(self):
        watcher = Watcher(ZAM)
        watcher.see_value(3)
        self.assertEqual(watcher.see_card(0, "m"), 2)
        self.assert_refused(watcher, Contradiction, watcher.see_card, 0, "a")
        self.assertEqual(watcher.see_card(1, "a"), 1)
        self.assertEqual(watcher.see_value(2), 1)
        self.assertEqual(watcher.history(), [("value", 3), ("card", 0, "m"), ("card", 1, "a"), ("value", 2)])

    def test_a_card_does_not_pass_a_value(self):
        watcher = Watcher(FIVE)
        watcher.see_card(4, "e")
        self.assertEqual(watcher.next_values(), [1, 2, 3, 4])

    def test_best_position(self):
        # The card c is on top or below; the other positions can hold three cards each.
        watcher = Watcher("wrap 3; a: emit 1 -> 9; b: emit 1 -> 9; c: emit 2 -> 9; d: emit 1 -> 9;")
        self.assertEqual(watcher.best_position(), 0)
        watcher.see_value(2)
        self.assertEqual(watcher.best_position(), 1)
        watcher.see_card(1, "d")
        self.assertEqual(watcher.best_position(), 2)
        watcher.see_card(3, "a")
        self.assertEqual(watcher.candidates(), [("c", "d", "b", "a")])
        self.assertEqual(watcher.best_position(), 0)

    def test_against_all_orders(self):
        rng = random.Random(11)
        accepted = refused = 0
        for deck in hidden_decks(80):
            table = try_all_orders(deck, 16)
            names = list(reference.read_deck(deck)[1])
            wrap = reference.read_deck(deck)[0]
            watcher, observations = Watcher(deck), []
            self.assertEqual(describe(watcher), expect(table, observations), deck)
            for _ in range(10):
                if rng.random() < 0.4:
                    observed = [("card", rng.randrange(len(names)), rng.choice(names))]
                else:
                    observed = [("value", rng.choice(watcher.next_values() + [rng.randrange(wrap)]))]
                left = [order for order in table if agrees(order, table[order], observations + observed)]
                call = watcher.see_value if observed[0][0] == "value" else watcher.see_card
                if left:
                    accepted += 1
                    observations = observations + observed
                    self.assertEqual(call(*observed[0][1:]), len(left), (deck, observations))
                else:
                    refused += 1
                    self.assert_refused(watcher, Contradiction, call, *observed[0][1:])
                self.assertEqual(describe(watcher), expect(table, observations), (deck, observations))
        self.assertGreater(accepted, 300)
        self.assertGreater(refused, 100)

    def test_five_cards(self):
        watcher = Watcher(FIVE)
        self.assertEqual(len(watcher.candidates()), 120)
        self.assertEqual(watcher.see_values(0, 4), 6)
        self.assertEqual(watcher.known_cards(), ("e", "a", None, None, None))
        self.assertEqual(watcher.best_position(), 2)
        self.assertEqual(watcher.see_card(4, "d"), 2)
        self.assertEqual(watcher.candidates(), [("e", "a", "c", "b", "d"), ("e", "a", "b", "c", "d")])
        self.assertEqual(watcher.next_values(), [2, 3])

    def test_invalid_values(self):
        watcher = Watcher(ABC)
        for value in NO_VALUES + (3,):
            with self.subTest(value=value):
                self.assert_refused(watcher, InvalidValue, watcher.see_value, value)
                self.assert_refused(watcher, InvalidValue, watcher.see_values, 1, value)
        self.assert_refused(watcher, Contradiction, watcher.see_value, 0)

    def test_invalid_positions_and_cards(self):
        watcher = Watcher(ABC)
        for position in NO_POSITIONS + (3,):
            for name in ("a", "d", None):
                with self.subTest(position=position, name=name):
                    self.assert_refused(watcher, InvalidCount, watcher.see_card, position, name)
        for name in NO_CARDS:
            for position in (0, 2):
                with self.subTest(name=name):
                    self.assert_refused(watcher, UnknownCard, watcher.see_card, position, name)
        one = Watcher(ONE)
        self.assertEqual(one.see_card(0, "a"), 1)
        self.assert_refused(one, InvalidCount, one.see_card, 1, "a")
        watcher.see_card(0, "a")
        self.assert_refused(watcher, UnknownCard, watcher.see_card, 0, "x")

    def test_errors_of_the_deck(self):
        with self.assertRaises(SyntaxFault) as caught:
            Watcher("wrap 2; a -> 0;")
        self.assertEqual((caught.exception.line, caught.exception.column), (0, 10))
        with self.assertRaises(SyntaxFault):
            Watcher(None)
        with self.assertRaises(CheckFault) as caught:
            Watcher(SIX + " f: -> 0;")
        self.assertEqual(caught.exception.reason, "duplicate")
        for deck in (SIX, LONG + " e: -> 0; f: -> 0;"):
            with self.assertRaises(TooManyOrders):
                Watcher(deck)
        for deck in (ONE_LONG, LONG):
            with self.assertRaises(TooLong):
                Watcher(deck)

    def test_two_watchers_side_by_side(self):
        first, second, third = Watcher(ZAM), Watcher(ZAM), Watcher(ABC)
        first.see_value(3)
        second.see_card(0, "a")
        self.assertEqual(first.candidates(), [("m", "z", "a"), ("m", "a", "z")])
        self.assertEqual(second.candidates(), [("a", "z", "m"), ("a", "m", "z")])
        self.assertEqual(second.next_values(), [2])
        self.assertEqual(third.history(), [])
        self.assertEqual(first.history(), [("value", 3)])
        self.assertEqual(len(third.candidates()), 6)

    def test_returned_lists_are_new(self):
        watcher = Watcher(ABC)
        watcher.see_value(2)
        expected = describe(watcher)
        for read in (watcher.candidates, watcher.next_values, watcher.history):
            found = read()
            found.append(("card", 0, "a"))
            found.pop(0)
            self.assertEqual(describe(watcher), expected)
        self.assertEqual(watcher.see_values(1), 1)

    def test_handed_over_lists_are_not_kept(self):
        values = [3, 2]
        watcher = Watcher(ZAM)
        watcher.see_values(*values)
        values.append(7)
        self.assertEqual(watcher.history(), [("value", 3), ("value", 2)])
        self.assertEqual(watcher.see_value(1), 1)


if __name__ == "__main__":
    unittest.main()
