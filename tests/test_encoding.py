"""Messages as symbols: points 6 and 7."""

import unittest
from itertools import product

from squaremark.encoding import count_encodings, decode_symbols, encode_text
from squaremark.errors import InvalidMessage, InvalidSymbols
from tests import reference

NOT_SYMBOLS = [-1, 16, True, False, None, "", "1", (), (1,), [], [1]]
NOT_STRINGS = [None, True, False, 0, 1, -1, (), ("a",), [], ["a", "b"]]
MESSAGES = [
    "", "e", "7", " ", "~", "A", "e7", "7e", "e7e", "7e7", "c", "cc", "mm7", "7q7", " e ", "e e", ". .", "e.e",
    "-e-", "ee-", "--e", "e--e", "'1'", "e,e", ",.", "a b", "ab1c", "A e", "e Ae", "tA", "Az", "z z", "3c3c", "c3c3",
    "  c", "c  ", "1 c", "c 1", "c.c", "eA1", "?'?", "et1", "12e", "x-y",
]
LONG_MESSAGES = [
    "7" * 200, "e" * 200, "~" * 200, "e7" * 100, "ab" * 100, "c3" * 100, "e." * 100, "The quick brown fox. " * 9,
    "q7 Zz-, '" * 22, "".join(reference.CHARACTERS) * 2, "Room 12, floor 3 - bring 2 keys.", "e e.e-e 7e7 e7e" * 13,
]


class Messages(unittest.TestCase):
    def check_invalid(self, text, index):
        for function in (encode_text, count_encodings):
            with self.subTest(function=function, text=text):
                with self.assertRaises(InvalidMessage) as caught:
                    function(text)
                self.assertEqual(caught.exception.index, index)

    def test_character_outside_the_alphabet(self):
        self.check_invalid("a\tb", 1)
        for character in ["%", "\t", "\n", "\x7f", "\x1f", "\x00", "\x80", "\xa0", "\xe9", "\u20ac", "\U0001f600"]:
            self.check_invalid(character, 0)
            self.check_invalid("ab" + character, 2)
            self.check_invalid(character + "ab" + character, 0)
            self.check_invalid("a" * 199 + character, 199)
            self.check_invalid("a" * 200 + character, 200)

    def test_longest_message(self):
        for character in ["7", "e", "~", " "]:
            self.assertEqual(decode_symbols(encode_text(character * 200)), character * 200)
            count_encodings(character * 200)

    def test_too_long(self):
        self.check_invalid("a" * 201, 200)
        self.check_invalid("7" * 1000, 200)
        self.check_invalid("a" * 205 + "%", 200)
        self.check_invalid("a" * 201 + "\t", 200)
        self.check_invalid("%" + "a" * 300, 0)
        self.check_invalid("a" * 150 + "%" + "a" * 300, 150)

    def test_not_a_string(self):
        for value in NOT_STRINGS:
            self.check_invalid(value, 0)


class EncodeText(unittest.TestCase):
    def test_examples(self):
        self.assertEqual(encode_text("eat"), [12, 0, 2, 1])
        self.assertEqual(count_encodings("e7"), 2)

    def test_empty_message(self):
        self.assertEqual(encode_text(""), [])
        self.assertEqual(count_encodings(""), 1)

    def test_single_characters(self):
        for character in reference.CHARACTERS:
            lists = reference.shortest_lists(character)
            self.assertEqual(encode_text(character), min(lists))
            self.assertEqual(count_encodings(character), len(lists))

    def test_every_character_in_letter_mode(self):
        for character in reference.CHARACTERS:
            text = "nnn" + character + "nnn"
            expected, count = reference.best_lists(text)
            self.assertEqual((encode_text(text), count_encodings(text)), (expected, count))

    def test_against_all_lists_up_to_four_symbols(self):
        found = {}
        for length in range(5):
            for symbols in product(range(16), repeat=length):
                text = reference.read_symbols(symbols)
                if text is not None and len(found.get(text, [symbols])[0]) == length:
                    found.setdefault(text, []).append(symbols)
        self.assertGreater(len(found), 20000)
        for text, lists in found.items():
            self.assertEqual(encode_text(text), list(min(lists)), text)
            self.assertEqual(count_encodings(text), len(lists), text)

    def test_against_an_exhaustive_search(self):
        for text in MESSAGES:
            with self.subTest(text=text):
                lists = reference.shortest_lists(text)
                self.assertEqual(encode_text(text), min(lists))
                self.assertEqual(count_encodings(text), len(lists))
                self.assertEqual(reference.best_lists(text), (min(lists), len(lists)))

    def test_long_messages(self):
        for text in LONG_MESSAGES:
            with self.subTest(text=text):
                self.assertLessEqual(len(text), 200)
                expected, count = reference.best_lists(text)
                self.assertEqual(encode_text(text), expected)
                self.assertEqual(count_encodings(text), count)
                self.assertEqual(reference.read_symbols(expected), text)

    def test_known_lists(self):
        self.assertEqual(encode_text("7" * 200), [7] * 200)
        self.assertEqual(encode_text("e" * 200), [12] + [0] * 200)
        self.assertEqual(encode_text("0. -9"), [0, 11, 10, 14, 9])
        self.assertEqual(encode_text("e7"), [12, 0, 14, 7])
        self.assertEqual(encode_text("A"), [13, 2, 0])
        self.assertEqual(encode_text("$"), [13, 0, 4])
        self.assertEqual(encode_text("&"), [13, 0, 5])
        self.assertEqual(encode_text("~"), [13, 5, 13])
        self.assertEqual(encode_text("cm' "), [12, 13, 0, 13, 1, 13, 15, 12])

    def test_kinds_of_the_results(self):
        for text in MESSAGES:
            self.assertIs(type(encode_text(text)), list)
            self.assertTrue(all(type(symbol) is int for symbol in encode_text(text)))
            self.assertIs(type(count_encodings(text)), int)


class DecodeSymbols(unittest.TestCase):
    def check(self, symbols, text):
        for argument in (list(symbols), tuple(symbols)):
            with self.subTest(symbols=argument):
                self.assertEqual(decode_symbols(argument), text)

    def check_invalid(self, symbols, index):
        for argument in (list(symbols), tuple(symbols)):
            with self.subTest(symbols=argument):
                with self.assertRaises(InvalidSymbols) as caught:
                    decode_symbols(argument)
                self.assertEqual(caught.exception.index, index)

    def test_examples(self):
        self.assertEqual(decode_symbols([12, 0, 2, 1, 15, 3]), "eat")
        self.check_invalid([13, 5], 2)

    def test_every_character_in_digit_mode(self):
        for code, character in reference.CODES[0].items():
            self.check(code, character)
            self.check((7,) + code + (7,), "7" + character + "7")
        for number in range(94):
            self.check((13, number // 16, number % 16), reference.CHARACTERS[number])

    def test_every_character_in_letter_mode(self):
        for code, character in reference.CODES[1].items():
            self.check((12,) + code, character)
            self.check((12, 0) + code + (0,), "e" + character + "e")

    def test_what_was_encoded(self):
        for text in MESSAGES + LONG_MESSAGES:
            self.check(encode_text(text), text)
            self.check(encode_text(text) + [15], text)
            self.check(encode_text(text) + [15, 0, 0, 0], text)

    def test_all_lists_of_three_symbols(self):
        for symbols in product(range(15), repeat=3):
            text = reference.read_symbols(symbols)
            if text is not None:
                self.check(symbols, text)

    def test_nothing(self):
        self.check([], "")
        self.check([15], "")
        self.check([12], "")
        self.check([12, 15], "")

    def test_modes(self):
        self.check([12, 14, 12, 14, 5], "5")
        self.check([12, 0, 14, 0, 12, 0], "e0e")
        self.check([12, 14], "")

    def test_end_symbol(self):
        self.check([15, 1, 2], "")
        self.check([1, 15, 2], "1")
        self.check([12, 0, 15, 0], "e")
        self.check([1, 15, 13], "1")
        self.check([1, 15, 13, 15, 15], "1")
        self.check([12, 15, 13], "")

    def test_fifteen_within_a_character_is_no_end(self):
        self.check([12, 13, 15, 0], "'e")
        self.check([13, 4, 15, 5], reference.CHARACTERS[79] + "5")
        self.check_invalid([13, 15, 0], 2)
        self.check_invalid([13, 15, 15], 2)

    def test_number_of_no_character(self):
        self.check([13, 5, 13], "~")
        self.check_invalid([13, 5, 14], 2)
        self.check_invalid([13, 5, 15], 2)
        self.check_invalid([13, 6, 0], 2)
        self.check_invalid([1, 2, 13, 5, 14, 3], 4)
        self.check_invalid([12, 0, 14, 13, 15, 15, 13], 5)
        self.check([15, 13, 5, 14], "")

    def test_incomplete_last_character(self):
        self.check_invalid([13], 1)
        self.check_invalid([13, 15], 2)
        self.check_invalid([1, 2, 13], 3)
        self.check_invalid([1, 2, 13, 0], 4)
        self.check_invalid([12, 13], 2)
        self.check_invalid([12, 0, 13], 3)
        self.check_invalid([12, 14, 13, 1], 4)
        # The first fault in the order of the symbols counts.
        self.check_invalid([13, 9, 9, 13], 2)

    def test_elements_that_are_not_symbols(self):
        for value in NOT_SYMBOLS:
            self.check_invalid([value], 0)
            self.check_invalid([1, value], 1)
            self.check_invalid([1, 15, 2, value], 3)
            self.check_invalid([12, 0, value, 16], 2)
            self.check_invalid([13, value, 1], 1)

    def test_elements_come_before_characters(self):
        self.check_invalid([13, 9, 9, -1], 3)
        self.check_invalid([13, True], 1)
        self.check_invalid([15, False, 13], 1)

    def test_other_kinds_of_arguments(self):
        for value in [None, True, False, 0, 1, "", "12"]:
            with self.subTest(value=value):
                with self.assertRaises(InvalidSymbols) as caught:
                    decode_symbols(value)
                self.assertEqual(caught.exception.index, 0)

    def test_more_characters_than_a_message_may_have(self):
        self.check([7] * 300, "7" * 300)


if __name__ == "__main__":
    unittest.main()
