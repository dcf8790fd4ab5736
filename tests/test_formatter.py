"""Tests of deckwork.formatter (point 4)."""

import unittest

from deckwork.errors import CheckFault, SyntaxFault
from deckwork.formatter import card_names, format_deck
from tests.reference import make_deck

DECK = "wrap 3; a: add p 1, emit p -> 1; b: copy q p -> q; c: -> p ? 0 : 2;"
TOKENS = ("wrap", "16", ";", "card", ":", "add", "p", "15", ",", "copy", "q", "r", ",", "swap", "s", "p", ",",
          "emit", "r", ",", "emit", "0", "->", "s", "?", "9", ":", "0", ";", "b", ":", "->", "q", ";",
          "c", ":", "->", "7", ";")
CANONICAL = ("wrap 16;\n"
             "card: add p 15, copy q r, swap s p, emit r, emit 0 -> s ? 9 : 0;\n"
             "b: -> q;\n"
             "c: -> 7;")


class FormatDeckTest(unittest.TestCase):
    def test_examples(self):
        self.assertEqual(format_deck("wrap 3; a:emit 1,add p 2->p?0:1;"),
                         "wrap 3;\na: emit 1, add p 2 -> p ? 0 : 1;")
        with self.assertRaises(SyntaxFault) as caught:
            format_deck("wrap 3; p: -> 0;")
        self.assertEqual((caught.exception.line, caught.exception.column), (0, 8))
        with self.assertRaises(CheckFault) as caught:
            format_deck("wrap 3; a: emit 3 -> 0;")
        fault = caught.exception
        self.assertEqual((fault.reason, fault.line, fault.column), ("number", 0, 16))

    def test_lines_of_the_document(self):
        self.assertEqual(format_deck("wrap 5;a:add p 1,emit p->p?2:0;b:->q;"),
                         "wrap 5;\na: add p 1, emit p -> p ? 2 : 0;\nb: -> q;")

    def test_each_action_and_put(self):
        self.assertEqual(format_deck(CANONICAL), CANONICAL)

    def test_other_spaces_and_line_feeds(self):
        for gap in (" ", "\n", "   ", "\n\n", " \n ", "\n  \n"):
            with self.subTest(gap=gap):
                self.assertEqual(format_deck(gap.join(TOKENS)), CANONICAL)
                self.assertEqual(format_deck(gap + gap.join(TOKENS) + gap), CANONICAL)

    def test_no_spaces_where_tokens_can_touch(self):
        self.assertEqual(format_deck("wrap16;card:add p15,copy q r,swap s p,emit r,emit0->s?9:0;b:->q;c:->7;"),
                         CANONICAL)

    def test_every_register(self):
        for letter in "pqrs":
            for other in "pqrs":
                text = (f"wrap 2;\na: add {letter} 1, copy {letter} {other}, swap {letter} {other}, "
                        f"emit {letter} -> {letter};\nb: -> {letter} ? 1 : 0;")
                self.assertEqual(format_deck(text), text)

    def test_nothing_is_simplified(self):
        text = "wrap 2;\na: add p 0, copy q q, swap q p, swap q p -> r ? 9 : 9;"
        self.assertEqual(format_deck(text), text)

    def test_canonical_texts_stay(self):
        for seed in range(200):
            text = make_deck(seed)
            with self.subTest(text=text):
                self.assertEqual(format_deck(text), text)
                self.assertEqual(format_deck(text.replace(" ", "  \n").replace(":", " :")), text)


class CardNamesTest(unittest.TestCase):
    def test_example(self):
        self.assertEqual(card_names(DECK), ["a", "b", "c"])

    def test_order_of_the_text(self):
        self.assertEqual(card_names("wrap 2; z: -> 0; abcdefgh: -> 0; m: -> 0;"), ["z", "abcdefgh", "m"])

    def test_one_and_eight_cards(self):
        self.assertEqual(card_names("wrap 2; x: -> 0;"), ["x"])
        self.assertEqual(card_names("wrap 2;" + "".join(f"{name}: -> 0;" for name in "hgfedcba")), list("hgfedcba"))

    def test_a_new_list_for_each_call(self):
        names = card_names(DECK)
        names.append("d")
        names[0] = "x"
        self.assertEqual(card_names(DECK), ["a", "b", "c"])
        self.assertIs(type(card_names(DECK)), list)

    def test_faults(self):
        with self.assertRaises(SyntaxFault):
            card_names("wrap 2; a: -> 0")
        with self.assertRaises(CheckFault):
            card_names("wrap 2; a: -> 0; a: -> 0;")


if __name__ == "__main__":
    unittest.main()
