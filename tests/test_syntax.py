"""Tests of points 2 and 3 and of the kinds of a deck (point 1)."""

import unittest

from deckwork.backward import comes_again, predecessors, reaches
from deckwork.comparison import are_equal, first_difference
from deckwork.counting import count_acts, count_emitted, first_emitted, idle_cards, nth_emitted
from deckwork.errors import CheckFault, InvalidState, SyntaxFault, UnknownCard
from deckwork.formatter import card_names, format_deck
from deckwork.machine import find_cycle, state_after, trace
from deckwork.simplifier import measure, simplify

NO_TEXTS = (None, True, False, 0, 7, (), [], ["wrap 2; a: -> 0;"], ("wrap 2; a: -> 0;",))
GOOD = "wrap 2; a: -> 0;"


def refused(call, error):
    """Return a function that takes a deck and calls another one, which raises this error for a valid deck."""
    def take(deck):
        try:
            call(deck)
        except error:
            return
        raise AssertionError("no error")
    return take


TAKERS = (
    format_deck,
    card_names,
    lambda deck: state_after(deck, 0),
    lambda deck: list(trace(deck, 0)),
    find_cycle,
    lambda deck: count_emitted(deck, 0),
    refused(lambda deck: count_acts(deck, None, 0), UnknownCard),
    lambda deck: first_emitted(deck, 0),
    lambda deck: nth_emitted(deck, 0),
    idle_cards,
    refused(lambda deck: predecessors(deck, None), InvalidState),
    refused(lambda deck: comes_again(deck, None), InvalidState),
    refused(lambda deck: reaches(deck, None, None), InvalidState),
    lambda deck: first_difference(deck, GOOD),
    lambda deck: first_difference(GOOD, deck),
    lambda deck: are_equal(deck, GOOD),
    lambda deck: are_equal(GOOD, deck),
    simplify,
    measure,
)


class FaultCase(unittest.TestCase):
    def assert_syntax(self, deck, line, column):
        for take in TAKERS:
            with self.subTest(deck=deck), self.assertRaises(SyntaxFault) as caught:
                take(deck)
            self.assertEqual((caught.exception.line, caught.exception.column), (line, column), deck)

    def assert_check(self, deck, reason, line, column):
        for take in TAKERS:
            with self.subTest(deck=deck), self.assertRaises(CheckFault) as caught:
                take(deck)
            fault = caught.exception
            self.assertEqual((fault.reason, fault.line, fault.column), (reason, line, column), deck)

    def assert_valid(self, deck):
        for take in TAKERS:
            with self.subTest(deck=deck):
                take(deck)


class CharacterTest(FaultCase):
    def test_characters_that_start_no_token(self):
        for character in "%!\"#$&'()*+./<=>@[\\]^_`{|}~AZ\t\r\f\v\0\x7f\xa0\xe4\xb2\u0663\u2028\U0001f0a1":
            self.assert_syntax("wrap 3; a" + character + ": -> 0;", 0, 9)

    def test_half_an_arrow(self):
        self.assert_syntax("wrap 3; a: - 0;", 0, 11)
        self.assert_syntax("wrap 3; a: > 0;", 0, 11)
        self.assert_syntax("wrap 3; a: - > 0;", 0, 11)
        self.assert_syntax("wrap 3; a: -\n> 0;", 0, 11)
        self.assert_syntax("wrap 3; a: --> 0;", 0, 11)
        self.assert_syntax("wrap 3; a: ->> 0;", 0, 13)
        self.assert_syntax("wrap 3; a: -", 0, 11)

    def test_place_over_several_lines(self):
        self.assert_syntax("wrap 3;\n\n  a: -> 0;\n b: % -> 0;", 3, 4)
        self.assert_syntax("\n\n%", 2, 0)

    def test_the_first_of_several(self):
        self.assert_syntax("wrap 3; a: $ -> 0; b: % -> 0;", 0, 11)
        self.assert_syntax("wrap 3; a: -> 0;\n# 007 abcdefghi", 1, 0)
        self.assert_syntax("wrap 3; a: -> 0;\n007 # abcdefghi", 1, 0)
        self.assert_syntax("wrap 3; a: -> 0;\nabcdefghi 007 #", 1, 0)


class WordTest(FaultCase):
    def test_names_of_eight_letters(self):
        self.assert_valid("wrap 3; abcdefgh: -> 0;")
        self.assert_valid("wrap 3; zzzzzzzz: -> 0;")

    def test_words_of_more_than_eight_letters(self):
        self.assert_syntax("wrap 3; abcdefghi: -> 0;", 0, 8)
        self.assert_syntax("wrap 3;\n  " + "x" * 30 + ": -> 0;", 1, 2)

    def test_names_that_contain_keywords_or_registers(self):
        self.assert_valid("wrap 3; wraps: -> 0; pq: -> 0; addp: -> 0; emi: -> 0; t: -> 0; o: -> 0;")

    def test_keywords_and_registers_are_no_names(self):
        for word in ("wrap", "add", "copy", "swap", "emit", "p", "q", "r", "s"):
            self.assert_syntax("wrap 3; " + word + ": -> 0;", 0, 8)


class NumberTest(FaultCase):
    def test_leading_zeros(self):
        self.assert_syntax("wrap 03; a: -> 0;", 0, 5)
        self.assert_syntax("wrap 3; a: -> 00;", 0, 14)
        self.assert_syntax("wrap 3; a: -> 007;", 0, 14)

    def test_more_than_three_digits(self):
        self.assert_syntax("wrap 3; a: -> 1000;", 0, 14)
        self.assert_syntax("wrap 3; a: -> 0000;", 0, 14)
        self.assert_syntax("wrap 3; a: add p " + "1" * 40 + " -> 0;", 0, 17)

    def test_three_digits_are_a_number(self):
        self.assert_check("wrap 3; a: -> 999;", "number", 0, 14)

    def test_signs_are_no_numbers(self):
        self.assert_syntax("wrap 3; a: -> -1;", 0, 14)
        self.assert_syntax("wrap 3; a: -> +1;", 0, 14)


class OrderTest(FaultCase):
    def test_invalid_tokens_behind_one_that_does_not_fit(self):
        self.assert_syntax("p 3; a: -> 0;\n b: % -> 0;", 1, 4)
        self.assert_syntax("wrap wrap 3; abcdefghi", 0, 13)
        self.assert_syntax("wrap ;\n012", 1, 0)
        self.assert_syntax("wrap 3 3 1234", 0, 9)

    def test_syntax_before_checks(self):
        self.assert_syntax("wrap 1; a: -> 99; a: -> 0", 1, 0)
        self.assert_syntax("wrap 99; a: add p 99, -> 10;", 0, 22)
        self.assert_syntax("wrap 1; a: -> 0; a: -> 0; %", 0, 26)


class GrammarTest(FaultCase):
    def test_the_head(self):
        self.assert_syntax("a: -> 0;", 0, 0)
        self.assert_syntax("3; a: -> 0;", 0, 0)
        self.assert_syntax("wrap p; a: -> 0;", 0, 5)
        self.assert_syntax("wrap; a: -> 0;", 0, 4)
        self.assert_syntax("wrap 3: a: -> 0;", 0, 6)
        self.assert_syntax("wrap 3, 4; a: -> 0;", 0, 6)
        self.assert_syntax("wrap 3;; a: -> 0;", 0, 7)

    def test_the_card(self):
        self.assert_syntax("wrap 3; 1: -> 0;", 0, 8)
        self.assert_syntax("wrap 3; 1a: -> 0;", 0, 8)
        self.assert_syntax("wrap 3; a1: -> 0;", 0, 9)
        self.assert_syntax("wrap 3; a b: -> 0;", 0, 10)
        self.assert_syntax("wrap 3; a -> 0;", 0, 10)
        self.assert_syntax("wrap 3; a; -> 0;", 0, 9)
        self.assert_syntax("wrap 3; a: -> 0, b: -> 0;", 0, 15)
        self.assert_syntax("wrap 3; a: -> 0;; b: -> 0;", 0, 16)
        self.assert_syntax("wrap 3; a: -> 0; wrap 3; a: -> 0;", 0, 17)
        self.assert_syntax("wrap 3; a: -> 0;\n -> 0;", 1, 1)

    def test_the_actions(self):
        self.assert_syntax("wrap 3; a: , -> 0;", 0, 11)
        self.assert_syntax("wrap 3; a: add p 1, -> 0;", 0, 20)
        self.assert_syntax("wrap 3; a: add p 1 add q 1 -> 0;", 0, 19)
        self.assert_syntax("wrap 3; a: add p 1; -> 0;", 0, 18)
        self.assert_syntax("wrap 3; a: b -> 0;", 0, 11)
        self.assert_syntax("wrap 3; a: p -> 0;", 0, 11)
        self.assert_syntax("wrap 3; a: wrap 3 -> 0;", 0, 11)
        self.assert_syntax("wrap 3; a: 0;", 0, 11)
        self.assert_syntax("wrap 3; a: add p 1, b -> 0;", 0, 20)

    def test_the_arguments_of_actions(self):
        self.assert_syntax("wrap 3; a: add 1 p -> 0;", 0, 15)
        self.assert_syntax("wrap 3; a: add p q -> 0;", 0, 17)
        self.assert_syntax("wrap 3; a: add p -> 0;", 0, 17)
        self.assert_syntax("wrap 3; a: add b 1 -> 0;", 0, 15)
        self.assert_syntax("wrap 3; a: add p 1 1 -> 0;", 0, 19)
        self.assert_syntax("wrap 3; a: copy p 1 -> 0;", 0, 18)
        self.assert_syntax("wrap 3; a: copy 1 p -> 0;", 0, 16)
        self.assert_syntax("wrap 3; a: copy p -> 0;", 0, 18)
        self.assert_syntax("wrap 3; a: swap p 1 -> 0;", 0, 18)
        self.assert_syntax("wrap 3; a: swap a b -> 0;", 0, 16)
        self.assert_syntax("wrap 3; a: emit -> 0;", 0, 16)
        self.assert_syntax("wrap 3; a: emit b -> 0;", 0, 16)
        self.assert_syntax("wrap 3; a: emit p q -> 0;", 0, 18)
        self.assert_syntax("wrap 3; a: emit p 1 -> 0;", 0, 18)

    def test_the_put(self):
        self.assert_syntax("wrap 3; a: -> ;", 0, 14)
        self.assert_syntax("wrap 3; a: -> b;", 0, 14)
        self.assert_syntax("wrap 3; a: -> 0 1;", 0, 16)
        self.assert_syntax("wrap 3; a: -> 0x;", 0, 15)
        self.assert_syntax("wrap 3; a: -> 0 ? 1 : 2;", 0, 16)
        self.assert_syntax("wrap 3; a: -> p 0;", 0, 16)
        self.assert_syntax("wrap 3; a: -> p : 0;", 0, 16)
        self.assert_syntax("wrap 3; a: -> p ? q : 0;", 0, 18)
        self.assert_syntax("wrap 3; a: -> p ? 0;", 0, 19)
        self.assert_syntax("wrap 3; a: -> p ? 0, 1;", 0, 19)
        self.assert_syntax("wrap 3; a: -> p ? 0 : q;", 0, 22)
        self.assert_syntax("wrap 3; a: -> p ? 0 : 1 : 2;", 0, 24)
        self.assert_syntax("wrap 3; a: -> -> 0;", 0, 14)


class EndTest(FaultCase):
    def test_nothing(self):
        self.assert_syntax("", 1, 0)
        self.assert_syntax("   ", 1, 0)
        self.assert_syntax("\n \n", 3, 0)

    def test_every_beginning_of_a_deck(self):
        pieces = ("wrap", " 3", ";", " a", ":", " add", " p", " 1", ",", " copy", " q", " r", ",", " emit", " p",
                  " ->", " p", " ?", " 1", " :", " 2")
        for many in range(1, len(pieces) + 1):
            self.assert_syntax("".join(pieces[:many]), 1, 0)
        self.assert_valid("".join(pieces) + ";")

    def test_lines_count_as_they_stand(self):
        self.assert_syntax("wrap 3;", 1, 0)
        self.assert_syntax("wrap 3;\n", 2, 0)
        self.assert_syntax("wrap\n3\n;\na: -> 0; b:\n\n", 6, 0)


class KindTest(FaultCase):
    def test_values_that_are_no_texts(self):
        for value in NO_TEXTS:
            self.assert_syntax(value, 0, 0)

    def test_a_list_is_not_modified(self):
        deck = ["wrap 2; a: -> 0;"]
        with self.assertRaises(SyntaxFault):
            format_deck(deck)
        self.assertEqual(deck, ["wrap 2; a: -> 0;"])


class WrapTest(FaultCase):
    def test_limits(self):
        self.assert_valid("wrap 2; a: -> 0;")
        self.assert_valid("wrap 16; a: -> 0;")

    def test_beyond_the_limits(self):
        for number in ("0", "1", "17", "100", "999"):
            self.assert_check("wrap " + number + "; a: -> 0;", "wrap", 0, 5)

    def test_it_comes_before_all_others(self):
        self.assert_check("\n wrap\n  17; a: add p 99 -> 10; a: -> 0;", "wrap", 2, 2)
        self.assert_check("wrap 1; a: emit 1 -> 0;", "wrap", 0, 5)


class CardsTest(FaultCase):
    def setUp(self):
        self.eight = "wrap 2;" + "".join(f"\n{name}: -> 0;" for name in "abcdefgh")

    def test_eight_cards(self):
        self.assert_valid(self.eight)

    def test_a_ninth_card(self):
        self.assert_check(self.eight + " i: -> 0;", "cards", 8, 9)
        self.assert_check(self.eight + "\n i: -> 0;\nj: -> 0;", "cards", 9, 1)

    def test_a_ninth_card_with_a_name_that_occurs(self):
        self.assert_check(self.eight + "\n a: -> 0;", "cards", 9, 1)

    def test_an_earlier_duplicate(self):
        self.assert_check(self.eight.replace("h:", "g:") + "\ni: -> 0;", "duplicate", 8, 0)


class DuplicateTest(FaultCase):
    def test_a_name_that_occurs_twice(self):
        self.assert_check("wrap 2; a: -> 0; b: -> 0;\n a: -> 0;", "duplicate", 1, 1)
        self.assert_check("wrap 2; a: -> 0; a: -> 0; a: -> 0;", "duplicate", 0, 17)

    def test_names_that_begin_alike(self):
        self.assert_valid("wrap 2; a: -> 0; aa: -> 0; ab: -> 0;")

    def test_before_the_errors_of_its_card(self):
        self.assert_check("wrap 2; a: -> 0; a: add p 2 -> 10;", "duplicate", 0, 17)

    def test_after_the_errors_of_an_earlier_card(self):
        self.assert_check("wrap 2; a: -> 10; a: -> 0;", "number", 0, 14)


class ActionsTest(FaultCase):
    def setUp(self):
        self.six = "wrap 2; a: " + ", ".join(["emit 1"] * 6)

    def test_six_actions(self):
        self.assert_valid(self.six + " -> 0;")
        self.assert_valid(self.six + " -> 0; b: copy p q, copy p q, copy p q, copy p q, copy p q, copy p q -> 0;")

    def test_a_seventh_action(self):
        for action in ("emit 1", "emit p", "add p 1", "copy p q", "swap p q"):
            self.assert_check(self.six + ",\n  " + action + " -> 0;", "actions", 1, 2)

    def test_more_of_them(self):
        self.assert_check(self.six + ",\nemit 1,\nemit 1 -> 0;", "actions", 1, 0)

    def test_before_the_number_in_it(self):
        self.assert_check(self.six + ",\n add p 2 -> 0;", "actions", 1, 1)

    def test_after_a_number_before_it(self):
        self.assert_check("wrap 2; a: emit 2" + ", emit 1" * 6 + " -> 0;", "number", 0, 16)

    def test_in_a_later_card(self):
        self.assert_check("wrap 2; b: -> 0;\na: emit 1" + ", emit 1" * 6 + " -> 0;", "actions", 1, 51)


class NumbersTest(FaultCase):
    def test_numbers_below_the_wrap_number(self):
        for wrap in range(2, 17):
            self.assert_valid(f"wrap {wrap}; a: add p {wrap - 1}, emit {wrap - 1}, add q 0, emit 0 -> 0;")

    def test_numbers_that_are_not(self):
        for wrap in range(2, 17):
            self.assert_check(f"wrap {wrap}\n; a: add p {wrap} -> 0;", "number", 1, 11)
            self.assert_check(f"wrap {wrap}\n; a: emit {wrap} -> 0;", "number", 1, 10)
        self.assert_check("wrap 16; a: emit 999 -> 0;", "number", 0, 17)

    def test_puts(self):
        self.assert_valid("wrap 2; a: -> 9;")
        self.assert_valid("wrap 2; a: -> p ? 9 : 9;")
        self.assert_check("wrap 16; a: -> 10;", "number", 0, 15)
        self.assert_check("wrap 16; a: -> p ? 10 : 9;", "number", 0, 19)
        self.assert_check("wrap 16; a: -> p ? 9 : 10;", "number", 0, 23)
        self.assert_check("wrap 16; a: -> p ? 11 : 10;", "number", 0, 19)

    def test_the_first_of_two_errors(self):
        self.assert_check("wrap 3; a: add p 3, emit 4 -> 10;", "number", 0, 17)
        self.assert_check("wrap 3; a: -> 0;\nb: emit 2 -> 10;\nb: -> 0;", "number", 1, 13)


if __name__ == "__main__":
    unittest.main()
