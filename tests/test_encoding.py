"""Tests of deckwork.encoding (points 1, 11 and 12)."""

import random
import unittest

from deckwork.encoding import decode, encode
from deckwork.errors import CheckFault, InvalidCode, SyntaxFault
from deckwork.formatter import format_deck
from tests import reference

EXAMPLE = [68, 3, 1, 1, 0, 1, 0, 0, 1, 1, 1, 77]
# Each kind of action and of put, with the first and the last of its bytes.
WHOLE = ("wrap 16;\n"
         "azazazaz: add p 15, add s 0, copy q r, swap s p, emit s, emit 15 -> s ? 9 : 0;\n"
         "b: -> 9;\n"
         "zz: emit 0 -> s;")
WHOLE_CODE = [68, 16, 3,
              8, 0, 25, 0, 25, 0, 25, 0, 25, 6, 0, 0, 15, 0, 3, 0, 1, 1, 2, 2, 3, 0, 3, 3, 4, 15, 2, 3, 9, 0,
              1, 1, 0, 0, 9,
              2, 25, 25, 1, 4, 0, 1, 3]
WHOLE_CODE.append(sum(WHOLE_CODE) % 256)
# For each byte of this deck the greatest one that is allowed at its place.
SMALL = "wrap 5; ab: add p 4, copy q r, swap s p, emit s, emit 3 -> q ? 2 : 7; c: -> 4; d: -> r;"
SMALL_LIMITS = [
    ("mark", 68, 68), ("wrap", 5, 16), ("cards", 3, 8),
    ("length", 2, 8), ("letter", 0, 25), ("letter", 1, 25), ("actions", 5, 6),
    ("kind", 0, 4), ("register", 0, 3), ("number", 4, 4),
    ("kind", 1, 4), ("register", 1, 3), ("register", 2, 3),
    ("kind", 2, 4), ("register", 3, 3), ("register", 0, 3),
    ("kind", 3, 4), ("register", 3, 3),
    ("kind", 4, 4), ("number", 3, 4),
    ("put", 2, 2), ("register", 1, 3), ("depth", 2, 9), ("depth", 7, 9),
    ("length", 1, 8), ("letter", 2, 25), ("actions", 0, 6), ("put", 0, 2), ("depth", 4, 9),
    ("length", 1, 8), ("letter", 3, 25), ("actions", 0, 6), ("put", 1, 2), ("register", 2, 3),
]
NO_BYTES = (None, True, False, "", "0", "68", (), (0,), [], [0], [[0]], -1, 256, 257, 10 ** 30)
NO_LISTS = (None, True, False, 0, 68, "", "wrap 2; a: -> 0;", (), tuple(EXAMPLE), (EXAMPLE,))


def seal(code):
    """Return bytes with their checksum."""
    return code + [sum(code) % 256]


def card(name, rest=(0, 0, 0)):
    """Return the bytes of a card without actions."""
    return [len(name), *[ord(letter) - ord("a") for letter in name], *rest]


class EncodeTest(unittest.TestCase):
    def assert_code(self, deck, code):
        self.assertEqual(encode(deck), code)
        self.assertEqual(decode(code), format_deck(deck))

    def test_example(self):
        self.assert_code("wrap 3; a: add p 1 -> q;", EXAMPLE)

    def test_each_action(self):
        for text, code in (("add p 0", [0, 0, 0]), ("add s 15", [0, 3, 15]), ("copy p q", [1, 0, 1]),
                           ("copy s s", [1, 3, 3]), ("swap r p", [2, 2, 0]), ("swap q s", [2, 1, 3]),
                           ("emit p", [3, 0]), ("emit s", [3, 3]), ("emit 0", [4, 0]), ("emit 15", [4, 15])):
            with self.subTest(text=text):
                self.assert_code(f"wrap 16; a: {text} -> 0;", seal([68, 16, 1, 1, 0, 1, *code, 0, 0]))

    def test_each_put(self):
        for text, code in (("0", [0, 0]), ("9", [0, 9]), ("p", [1, 0]), ("s", [1, 3]),
                           ("p ? 0 : 9", [2, 0, 0, 9]), ("s ? 9 : 1", [2, 3, 9, 1])):
            with self.subTest(text=text):
                self.assert_code(f"wrap 2; a: -> {text};", seal([68, 2, 1, 1, 0, 0, *code]))

    def test_names(self):
        for name in ("a", "z", "o", "t", "abcdefgh", "zzzzzzzz", "wraps", "ad", "pp", "emitt", "dda"):
            with self.subTest(name=name):
                self.assert_code(f"wrap 2; {name}: -> 0;", seal([68, 2, 1] + card(name)))

    def test_the_whole_deck(self):
        self.assert_code(WHOLE, WHOLE_CODE)
        self.assertEqual(encode(" \n" + WHOLE.replace(" ", "  ") + "\n"), WHOLE_CODE)
        self.assert_code(SMALL, seal([byte for _, byte, _ in SMALL_LIMITS]))

    def test_most_cards_and_actions(self):
        actions = "swap s s, copy s s, emit 15, add s 15, emit s, swap s r"
        deck = "\n".join(["wrap 16;"] + [f"{letter * 8}: {actions} -> s ? 9 : 9;" for letter in "abcdefgh"])
        code = encode(deck)
        self.assertEqual(code[:4], [68, 16, 8, 8])
        self.assertEqual(decode(code), deck)

    def test_the_checksum_is_a_byte(self):
        sums = set()
        for wrap in range(2, 17):
            for letter in "ad":
                code = encode(f"wrap {wrap}; zzzzzzz{letter}: -> 0;")
                self.assertEqual(code[-1], sum(code[:-1]) % 256)
                sums.add(sum(code[:-1]))
        self.assertTrue({255, 256} <= sums, sums)

    def test_many_decks(self):
        for seed in range(300):
            deck = reference.make_deck(seed)
            code = encode(deck)
            with self.subTest(deck=deck):
                self.assertEqual(decode(code), deck)
                self.assertEqual(encode(decode(code)), code)
                self.assertTrue(all(byte.__class__ is int and 0 <= byte < 256 for byte in code))

    def test_errors(self):
        with self.assertRaises(SyntaxFault) as caught:
            encode("wrap 3; p: -> 0;")
        self.assertEqual((caught.exception.line, caught.exception.column), (0, 8))
        with self.assertRaises(CheckFault) as caught:
            encode("wrap 3;\na: emit 3 -> 0;")
        self.assertEqual((caught.exception.reason, caught.exception.line, caught.exception.column), ("number", 1, 8))
        for deck in (None, True, 68, EXAMPLE, ()):
            with self.subTest(deck=deck), self.assertRaises(SyntaxFault):
                encode(deck)

    def test_returned_lists_are_new(self):
        code = encode(WHOLE)
        code.clear()
        self.assertEqual(encode(WHOLE), WHOLE_CODE)


class DecodeTest(unittest.TestCase):
    def assert_invalid(self, code, place):
        before = repr(code)
        for _ in range(2):
            with self.assertRaises(InvalidCode) as caught:
                decode(code)
            self.assertEqual(caught.exception.place, place, code)
        self.assertEqual(repr(code), before)

    def test_examples(self):
        self.assertEqual(decode([68, 3, 1, 1, 0, 1, 0, 0, 1, 1, 1, 77]), "wrap 3;\na: add p 1 -> q;")
        self.assert_invalid([68, 1], 1)

    def test_no_list(self):
        for code in NO_LISTS:
            with self.subTest(code=code):
                self.assert_invalid(code, 0)

    def test_cut_at_every_place(self):
        for code in (EXAMPLE, WHOLE_CODE):
            for place in range(len(code)):
                with self.subTest(place=place):
                    self.assert_invalid(code[:place], place)

    def test_extended(self):
        for code in (EXAMPLE, WHOLE_CODE):
            for more in ([0], [68], [code[-1]], [None], [True], [256], ["a"], [[]], [0, 0, 0], code):
                with self.subTest(more=more):
                    self.assert_invalid(code + more, len(code))

    def test_no_byte_at_every_place(self):
        for code in (EXAMPLE, WHOLE_CODE):
            for place in range(len(code)):
                for byte in NO_BYTES:
                    self.assert_invalid(code[:place] + [byte] + code[place + 1:], place)
                    self.assert_invalid(code[:place] + [byte], place)

    def test_true_and_false_are_no_bytes(self):
        code = seal([68, 2, 1, 1, 0, 0, 0, 0])
        self.assertEqual(decode(code), "wrap 2;\na: -> 0;")
        for place in (2, 3):
            self.assert_invalid(code[:place] + [True] + code[place + 1:], place)
        for place in (4, 5, 6, 7):
            self.assert_invalid(code[:place] + [False] + code[place + 1:], place)

    def test_limits_at_every_place(self):
        code = [byte for _, byte, _ in SMALL_LIMITS]
        for place, (kind, _, most) in enumerate(SMALL_LIMITS):
            least = {"mark": 68, "wrap": 2, "cards": 1, "length": 1}.get(kind, 0)
            for byte in range(256):
                changed = code[:place] + [byte] + code[place + 1:]
                if not least <= byte <= most:
                    self.assert_invalid(seal(changed), place)
                elif kind == "letter" and place > 10 and byte in (15, 16, 17, 18):
                    # A card called p, q, r or s.
                    self.assert_invalid(changed[:place + 1], place - 1)
                else:
                    # What follows is missing, so this byte was accepted.
                    self.assert_invalid(changed[:place + 1], place + 1)

    def test_the_checksum(self):
        for code in (EXAMPLE, WHOLE_CODE):
            for byte in range(256):
                if byte != code[-1]:
                    self.assert_invalid(code[:-1] + [byte], len(code) - 1)
                    self.assert_invalid(code[:-1] + [byte, 0], len(code) - 1)

    def test_numbers_are_less_than_the_one_after_wrap(self):
        for wrap in range(2, 17):
            for action in ([0, 0, wrap], [4, wrap]):
                head = [68, wrap, 1, 1, 0, 1]
                self.assert_invalid(seal(head + action + [0, 0]), len(head + action) - 1)
                action[-1] -= 1
                self.assertIn(f" {wrap - 1} -> 0;", decode(seal(head + action + [0, 0])))

    def test_a_smaller_wrap_makes_a_later_number_invalid(self):
        code = encode("wrap 9; a: emit 3, emit 8 -> 0;")
        code[1] = 8
        self.assert_invalid(code, code.index(8, 2))

    def test_names_that_are_keywords_or_registers(self):
        for name in ("wrap", "add", "copy", "swap", "emit", "p", "q", "r", "s"):
            word = card(name, ())
            with self.subTest(name=name):
                self.assert_invalid(seal([68, 2, 1] + word + [0, 0, 0]), 3)
                self.assert_invalid([68, 2, 1] + word, 3)
                self.assert_invalid([68, 2, 1] + word + [7], 3)
                self.assert_invalid([68, 2, 1] + word[:-1], 3 + len(name))
                for byte in (26, 255, None, True):
                    self.assert_invalid([68, 2, 1] + word[:-1] + [byte], 3 + len(name))
                self.assert_invalid(seal([68, 2, 2] + card("ab") + word + [0, 0, 0]), 9)
                longer = card(name + "x")
                self.assertEqual(decode(seal([68, 2, 1] + longer)), f"wrap 2;\n{name}x: -> 0;")

    def test_names_that_occur_twice(self):
        code = [68, 2, 3] + card("ab") + card("c") + card("ab")
        with self.assertRaises(CheckFault) as caught:
            decode(seal(code))
        fault = caught.exception
        self.assertEqual((fault.reason, fault.line, fault.column), ("duplicate", 3, 0))
        # All bytes are looked at before.
        self.assert_invalid(code, len(code))
        self.assert_invalid(code + [(sum(code) + 1) % 256], len(code))
        self.assert_invalid(seal(code) + [0], len(code) + 1)
        self.assert_invalid(code[:-1] + [10], len(code) - 1)
        code = [68, 2, 8] + card("a") * 8
        with self.assertRaises(CheckFault) as caught:
            decode(seal(code))
        self.assertEqual((caught.exception.line, caught.exception.column), (2, 0))

    def test_too_many_or_too_few_cards(self):
        for many in (0, 9, 16, 68, 255):
            self.assert_invalid(seal([68, 2, many] + card("a") * many), 2)
        self.assert_invalid(seal([68, 2, 2] + card("a")), 8)
        self.assert_invalid([68, 2, 1] + card("a") + card("b"), 8)

    def test_changed_at_random(self):
        rng = random.Random(5)
        invalid = 0
        for seed in range(150):
            code = encode(reference.make_deck(seed))
            for _ in range(40):
                place = rng.randrange(len(code))
                changed = list(code)
                changed[place] = rng.choice([rng.randrange(256), rng.randrange(30), changed[place] + 1])
                try:
                    text = decode(changed)
                except CheckFault as fault:
                    self.assertEqual(fault.reason, "duplicate")
                except InvalidCode as error:
                    invalid += 1
                    self.assert_invalid(changed[:error.place], error.place)
                else:
                    self.assertEqual(encode(text), changed)
        self.assertGreater(invalid, 1000)

    def test_the_list_is_not_modified(self):
        code = list(WHOLE_CODE)
        self.assertEqual(decode(code), WHOLE)
        self.assertEqual(code, WHOLE_CODE)
        self.assertEqual(decode(code), WHOLE)


if __name__ == "__main__":
    unittest.main()
