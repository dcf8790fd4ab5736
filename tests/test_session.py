"""Tests of deckwork.session (points 1 and 16)."""

import random
import unittest

from deckwork.desk import Desk
from deckwork.errors import CheckFault, InvalidOperation, InvalidSession, SyntaxFault
from deckwork.session import format_session, parse_session
from tests import reference
from tests.test_desk import FAILING, MALFORMED, describe, make_operation
from tests.test_machine import DECK

SMALL = "wrap 3; a: -> 0;"
HEAD = "deck 1\n" + SMALL
EACH = [("step", 5), ("poke", "q", 2), ("lift", "c", 0), ("reset",), ("undo",), ("redo",)]
EACH_TEXT = ("deck 4\nwrap 3;\na: add p 1, emit p -> 1;\nb: copy q p -> q;\nc: -> p ? 0 : 2;\n"
             "step 5\npoke q 2\nlift c 0\nreset\nundo\nredo")
# Lines that are no operation, each for its own reason.
NO_LINES = (
    "", " ", "  ", "stop", "steps 1", "Step 1", "STEP 1", "deck 1", "save x", "restore x", "batch", "state",
    "wrap 3;", "a: -> 0;", "step", "step ", "step  1", " step 1", "step 1 ", "step\t1", "step 1\r", "step 1 1",
    "step1", "step 01", "step 00", "step 007", "step 1000", "step 0000", "step -1", "step +1", "step 1.0", "step x",
    "step p", "step one", "step 1;", "poke", "poke q", "poke q ", "poke  q 1", "poke q  1", "poke q 1 ", "poke q 1 1",
    "poke 1 q", "poke a 1", "poke t 1", "poke Q 1", "poke qq 1", "poke 0 1", "poke wrap 1", "poke q q", "poke q 01",
    "poke q 1000", "poke q -1", "lift", "lift a", "lift a ", "lift  a 0", "lift a  0", "lift a 0 ", "lift a 0 0",
    "lift 0 a", "lift p 0", "lift s 0", "lift wrap 0", "lift add 0", "lift copy 0", "lift swap 0", "lift emit 0",
    "lift abcdefghi 0", "lift A 0", "lift a1 0", "lift a a", "lift a 00", "lift a 0123", "lift a: 0", "lift -> 0",
    "reset ", " reset", "reset 1", "undo 1", "undo ", "redo 0", "redo\t", "reset undo", "undo,",
)
NO_HEADS = (
    "", " ", "deck", "deck ", "deck  1", " deck 1", "deck 1 ", "deck 1 1", "deck\t1", "deck1", "Deck 1", "decks 1",
    "1", "1 deck", "deck 01", "deck 00", "deck 001", "deck 0001", "deck 1000", "deck -1", "deck +1", "deck a",
    "deck p", "deck one", "deck 1;", "wrap 3; a: -> 0;", "step 1", "deck 0",
)
NO_TEXTS = (None, True, False, 0, 1, (), [], [HEAD], (HEAD,))


class FormatSessionTest(unittest.TestCase):
    def test_example(self):
        self.assertEqual(format_session("wrap 3; a: -> 0;", [("step", 5)]), "deck 2\nwrap 3;\na: -> 0;\nstep 5")

    def test_each_operation(self):
        self.assertEqual(format_session(DECK, EACH), EACH_TEXT)

    def test_no_operations(self):
        self.assertEqual(format_session(SMALL, []), "deck 2\nwrap 3;\na: -> 0;")

    def test_the_text_of_the_deck_is_canonical(self):
        self.assertEqual(format_session("\n wrap 3;a:emit 1,add p 2->p?0:1;\n\n", [("undo",)]),
                         "deck 2\nwrap 3;\na: emit 1, add p 2 -> p ? 0 : 1;\nundo")

    def test_as_many_lines_as_cards_and_one(self):
        deck = "wrap 2;\n" + "\n".join(f"{letter}: -> 0;" for letter in "abcdefgh")
        self.assertEqual(format_session(deck, [("lift", "h", 7)]), "deck 9\n" + deck + "\nlift h 7")

    def test_greatest_numbers(self):
        deck = "wrap 16;\n" + "\n".join(f"{letter * 8}: -> 0;" for letter in "abcdefgh")
        text = format_session(deck, [("step", 500), ("poke", "s", 15), ("lift", "hhhhhhhh", 7), ("step", 0)])
        self.assertEqual(text.split("\n")[10:], ["step 500", "poke s 15", "lift hhhhhhhh 7", "step 0"])

    def test_invalid_operations(self):
        for entry in MALFORMED + tuple(operation for operation, _ in FAILING):
            for before in ([], [("step", 1), ("undo",)]):
                with self.subTest(entry=entry), self.assertRaises(InvalidOperation) as caught:
                    format_session(DECK, before + [entry, ("step",)])
                self.assertEqual(caught.exception.place, len(before))

    def test_no_list(self):
        for operations in (None, True, 0, "", "step 1", (), (("step", 1),)):
            with self.subTest(operations=operations), self.assertRaises(InvalidOperation) as caught:
                format_session(DECK, operations)
            self.assertEqual(caught.exception.place, 0)

    def test_errors_of_the_deck_come_first(self):
        for operations in ([], None, [("step",)]):
            with self.assertRaises(SyntaxFault) as caught:
                format_session("wrap 3; a -> 0;", operations)
            self.assertEqual((caught.exception.line, caught.exception.column), (0, 10))
            with self.assertRaises(SyntaxFault):
                format_session(None, operations)
            with self.assertRaises(CheckFault) as caught:
                format_session("wrap 3;\na: -> 10;", operations)
            fault = caught.exception
            self.assertEqual((fault.reason, fault.line, fault.column), ("number", 1, 6))

    def test_the_list_is_not_modified(self):
        operations = list(EACH)
        self.assertEqual(format_session(DECK, operations), format_session(DECK, operations))
        self.assertEqual(operations, EACH)


class ParseSessionTest(unittest.TestCase):
    def assert_invalid(self, text, place):
        for _ in range(2):
            with self.assertRaises(InvalidSession) as caught:
                parse_session(text)
            self.assertEqual(caught.exception.place, place, text)

    def test_examples(self):
        self.assertEqual(parse_session("deck 1\nwrap 3; a: -> 0;\nundo"), ("wrap 3; a: -> 0;", [("undo",)]))
        self.assert_invalid("deck 1\nwrap 3; a: -> 0;\nstep", 2)

    def test_each_operation(self):
        deck, operations = parse_session(EACH_TEXT)
        self.assertEqual(operations, EACH)
        self.assertEqual(deck, "\n".join(EACH_TEXT.split("\n")[1:5]))
        self.assertIs(operations[0][1].__class__, int)

    def test_no_operations(self):
        self.assertEqual(parse_session(HEAD), (SMALL, []))

    def test_the_lines_of_the_deck_stay_as_they_are(self):
        for deck in (SMALL, "\n" + SMALL, SMALL + "\n", "\n\n  wrap\n3 ;a\n:  ->0;  \n\n", "wrap 3;\na:\n-> 0\n;",
                     SMALL + "\n" * 998):
            many = deck.count("\n") + 1
            with self.subTest(many=many):
                self.assertEqual(parse_session(f"deck {many}\n{deck}"), (deck, []))
                self.assertEqual(parse_session(f"deck {many}\n{deck}\nreset\nstep 0"),
                                 (deck, [("reset",), ("step", 0)]))

    def test_lines_of_the_deck_that_look_like_operations(self):
        deck = "wrap 3;\nstep\n: -> 0;\nundo: -> 0;"
        self.assertEqual(parse_session("deck 4\n" + deck + "\nlift step 1\nlift undo 0"),
                         (deck, [("lift", "step", 1), ("lift", "undo", 0)]))

    def test_first_lines(self):
        for head in NO_HEADS:
            with self.subTest(head=head):
                self.assert_invalid(head, 0)
                self.assert_invalid(head + "\n" + SMALL, 0)
                self.assert_invalid(head + "\n" + SMALL + "\nstep 1", 0)
                self.assert_invalid(head + "\n" + SMALL + "\nstep", 0)

    def test_fewer_lines(self):
        for many in (2, 3, 10, 999):
            self.assert_invalid(f"deck {many}\n" + SMALL, 0)
        self.assert_invalid("deck 1", 0)
        self.assert_invalid("deck 3\n" + SMALL + "\nstep 1", 0)
        self.assert_invalid("deck 4\n" + SMALL + "\n\n", 0)
        self.assertEqual(parse_session("deck 3\n" + SMALL + "\n\n"), (SMALL + "\n\n", []))

    def test_invalid_lines(self):
        for line in NO_LINES:
            with self.subTest(line=line):
                self.assert_invalid(HEAD + "\n" + line, 2)
                self.assert_invalid(HEAD + "\nstep 1\nundo\n" + line + "\nreset\nstep", 4)
                self.assert_invalid("deck 3\n\n" + SMALL + "\n\nundo\n" + line, 5)

    def test_a_line_feed_at_the_end(self):
        self.assert_invalid(HEAD + "\n", 2)
        self.assert_invalid(HEAD + "\nstep 1\n", 3)
        self.assert_invalid(HEAD + "\n\nstep 1", 2)

    def test_no_text(self):
        for text in NO_TEXTS:
            with self.subTest(text=text):
                self.assert_invalid(text, 0)

    def test_numbers_and_names(self):
        for line, operation in (("step 0", ("step", 0)), ("step 500", ("step", 500)), ("poke p 0", ("poke", "p", 0)),
                                ("poke s 15", ("poke", "s", 15)), ("lift zzzzzzzz 1", ("lift", "zzzzzzzz", 1)),
                                ("lift reset 0", ("lift", "reset", 0))):
            deck = "wrap 16; reset: -> 0; zzzzzzzz: -> 0;"
            self.assertEqual(parse_session(f"deck 1\n{deck}\n{line}"), (deck, [operation]))

    def test_invalid_lines_come_before_other_errors(self):
        for deck in ("wrap 3; a -> 0;", "wrap 1; a: -> 0;", SMALL):
            self.assert_invalid(f"deck 1\n{deck}\nstep 999\nstep", 3)
            self.assert_invalid(f"deck 1\n{deck}\nlift x 0\n", 3)

    def test_errors_of_the_deck(self):
        with self.assertRaises(SyntaxFault) as caught:
            parse_session("deck 2\nwrap 3;\na -> 0;\nstep 999")
        self.assertEqual((caught.exception.line, caught.exception.column), (1, 2))
        with self.assertRaises(SyntaxFault) as caught:
            parse_session("deck 1\nwrap 3;\nundo")
        self.assertEqual((caught.exception.line, caught.exception.column), (1, 0))
        with self.assertRaises(CheckFault) as caught:
            parse_session("deck 2\nwrap 3;\na: -> 10;\nlift x 0")
        fault = caught.exception
        self.assertEqual((fault.reason, fault.line, fault.column), ("number", 1, 6))

    def test_operations_that_fail(self):
        for line in ("step 501", "step 999", "poke p 3", "poke s 999", "lift b 0", "lift a 1", "lift a 999"):
            for before in ([], ["step 500", "undo", "poke r 2"]):
                with self.subTest(line=line), self.assertRaises(InvalidOperation) as caught:
                    parse_session("\n".join([HEAD] + before + [line, "step 501"]))
                self.assertEqual(caught.exception.place, len(before))

    def test_there_and_back(self):
        for seed in range(60):
            rng = random.Random(seed)
            deck = reference.make_deck(seed)
            wrap, cards = reference.read_deck(deck)
            operations = [make_operation(rng, list(cards), wrap) for _ in range(rng.randrange(12))]
            text = format_session(deck, operations)
            with self.subTest(text=text):
                self.assertEqual(parse_session(text), (deck, operations))
                self.assertEqual(format_session(*parse_session(text)), text)
                self.assertEqual(describe(Desk.replay(*parse_session(text))), describe(Desk.replay(deck, operations)))

    def test_returned_lists_are_new(self):
        parse_session(EACH_TEXT)[1].clear()
        self.assertEqual(parse_session(EACH_TEXT)[1], EACH)


if __name__ == "__main__":
    unittest.main()
