"""Blocks: points 3 and 4."""

import random
import unittest
from itertools import combinations, product

from squaremark.codewords import decode_block, encode_block
from squaremark.errors import InvalidBlock
from tests import reference

NOT_SYMBOLS = [-1, 16, True, False, "1", "", (), (1,), [], [1]]
NOT_NUMBERS = [True, False, None, "1", "", (), (1,), [], [1]]


def random_block(source, data_count, length):
    """A block by its polynomial, and so without encode_block."""
    coefficients = [source.randrange(16) for _ in range(data_count)]
    return tuple(reference.evaluate(coefficients, at) for at in range(length))


def damage(source, block, error_count, erasure_count):
    """A received block with as many errors and erasures, at different indexes."""
    received = list(block)
    places = source.sample(range(len(block)), error_count + erasure_count)
    for at in places[:error_count]:
        received[at] ^= source.randrange(1, 16)
    for at in places[error_count:]:
        received[at] = None
    return tuple(received)


class EncodeBlock(unittest.TestCase):
    def test_examples(self):
        self.assertEqual(encode_block((0, 1), 3), (0, 1, 2, 3, 4))
        self.assertRaises(InvalidBlock, encode_block, (), 1)

    def test_all_symbols_are_values_of_one_polynomial(self):
        source = random.Random(3)
        for length in range(1, 17):
            for data_count in range(1, length + 1):
                for _ in range(5):
                    block = random_block(source, data_count, length)
                    data = block[:data_count]
                    self.assertEqual(encode_block(data, length - data_count), block)

    def test_every_block_with_two_data_symbols(self):
        for block in reference.all_blocks(2):
            self.assertEqual(encode_block(block[:2], 14), block)

    def test_one_data_symbol_is_repeated(self):
        for symbol in range(16):
            self.assertEqual(encode_block((symbol,), 15), (symbol,) * 16)

    def test_data_come_first(self):
        data = (15, 0, 7, 7, 1)
        for check_count in range(12):
            block = encode_block(data, check_count)
            self.assertEqual(block[:5], data)
            self.assertEqual(len(block), 5 + check_count)
            self.assertIs(type(block), tuple)

    def test_no_check_symbols(self):
        self.assertEqual(encode_block((5,), 0), (5,))
        self.assertEqual(encode_block((3, 1, 4, 1), 0), (3, 1, 4, 1))

    def test_blocks_of_sixteen_symbols(self):
        self.assertEqual(encode_block(tuple(range(16)), 0), tuple(range(16)))
        self.assertEqual(encode_block(tuple(range(15)), 1), tuple(range(16)))
        self.assertEqual(encode_block((0, 1), 14), tuple(range(16)))

    def test_too_long(self):
        for data_count in range(1, 17):
            self.assertEqual(len(encode_block((1,) * data_count, 16 - data_count)), 16)
            self.assertRaises(InvalidBlock, encode_block, (1,) * data_count, 17 - data_count)
        self.assertRaises(InvalidBlock, encode_block, (1,) * 17, 0)
        self.assertRaises(InvalidBlock, encode_block, (1,), 10 ** 30)

    def test_invalid_data(self):
        for data in [(), [], [1, 2], "12", "", 1, 0, None, True]:
            with self.subTest(data=data):
                self.assertRaises(InvalidBlock, encode_block, data, 1)

    def test_entry_that_is_not_a_symbol(self):
        for value in NOT_SYMBOLS + [None]:
            for data in [(value,), (value, 1), (1, value), (1, 2, value, 3)]:
                with self.subTest(data=data):
                    self.assertRaises(InvalidBlock, encode_block, data, 2)

    def test_invalid_number_of_check_symbols(self):
        for check_count in NOT_NUMBERS + [-1, -2, -16]:
            with self.subTest(check_count=check_count):
                self.assertRaises(InvalidBlock, encode_block, (1, 2), check_count)


class DecodeBlock(unittest.TestCase):
    def test_examples(self):
        self.assertEqual(decode_block((7, 7, None, 6), 3), (7,))
        self.assertIsNone(decode_block((5, 6, None), 2))

    def test_within_and_at_the_radius(self):
        source = random.Random(4)
        for length in range(1, 17):
            for check_count in range(length):
                for erasure_count in range(check_count + 1):
                    radius = (check_count - erasure_count) // 2
                    for error_count in {0, radius // 2, max(radius - 1, 0), radius}:
                        block = random_block(source, length - check_count, length)
                        received = damage(source, block, error_count, erasure_count)
                        with self.subTest(received=received, check_count=check_count):
                            self.assertEqual(decode_block(received, check_count), block[:length - check_count])

    def test_every_place_of_the_errors(self):
        block = encode_block((9, 0, 4, 13), 4)
        for places in combinations(range(8), 2):
            received = tuple(symbol ^ 5 if at in places else symbol for at, symbol in enumerate(block))
            self.assertEqual(decode_block(received, 4), (9, 0, 4, 13))

    def test_every_place_of_the_erasures(self):
        block = encode_block((9, 0, 4, 13), 4)
        for count in range(5):
            for places in combinations(range(8), count):
                received = tuple(None if at in places else symbol for at, symbol in enumerate(block))
                self.assertEqual(decode_block(received, 4), (9, 0, 4, 13))

    def test_beyond_the_radius(self):
        source = random.Random(5)
        for length in range(2, 17):
            for data_count in range(1, min(length, 4)):
                check_count = length - data_count
                for erasure_count in {0, 1, check_count}:
                    radius = (check_count - erasure_count) // 2
                    error_count = min(radius + 1, length - erasure_count)
                    block = random_block(source, data_count, length)
                    received = damage(source, block, error_count, erasure_count)
                    with self.subTest(received=received, check_count=check_count):
                        self.assertNotEqual(decode_block(received, check_count), block[:data_count])
                        expected = reference.close_data(received, check_count)
                        self.assertEqual(decode_block(received, check_count), expected)

    def test_every_received_block_of_three_entries(self):
        entries = [None] + list(range(16))
        for received in product(entries, repeat=3):
            for check_count in (1, 2):
                expected = reference.close_data(received, check_count)
                self.assertEqual(decode_block(received, check_count), expected, received)

    def test_random_received_blocks(self):
        source = random.Random(6)
        for _ in range(600):
            length = source.randrange(3, 17)
            data_count = source.randrange(1, 3)
            entries = [None] * source.randrange(4) + [0, 0, 0, 1, 2, 3, 5, 15]
            received = tuple(source.choice(entries) for _ in range(length))
            expected = reference.close_data(received, length - data_count)
            self.assertEqual(decode_block(received, length - data_count), expected, received)

    def test_as_many_erasures_as_check_symbols_and_more(self):
        block = encode_block((1, 2, 3), 4)
        self.assertEqual(decode_block((None,) * 4 + block[4:], 4), (1, 2, 3))
        self.assertIsNone(decode_block((None,) * 5 + block[5:], 4))
        self.assertIsNone(decode_block(block[:2] + (None,) * 5, 4))
        self.assertIsNone(decode_block((1, 2, None), 0))

    def test_every_entry_erased(self):
        for length in range(1, 17):
            for check_count in range(length):
                self.assertIsNone(decode_block((None,) * length, check_count))

    def test_no_check_symbols(self):
        self.assertEqual(decode_block((5,), 0), (5,))
        self.assertEqual(decode_block(tuple(range(16)), 0), tuple(range(16)))
        self.assertEqual(decode_block((3, 1, 4), 0), (3, 1, 4))

    def test_one_data_symbol(self):
        self.assertEqual(decode_block((8,) * 9 + (1,) * 7, 15), (8,))
        self.assertIsNone(decode_block((8,) * 8 + (1,) * 8, 15))
        self.assertEqual(decode_block((None,) * 15 + (4,), 15), (4,))

    def test_the_radius_is_not_rounded_up(self):
        block = encode_block((1, 2, 3), 3)
        self.assertEqual(decode_block((9,) + block[1:], 3), (1, 2, 3))
        self.assertIsNone(decode_block((9, None) + block[2:5] + (None,), 3))
        self.assertIsNone(decode_block((9,) + block[1:4], 1))

    def test_lengths(self):
        self.assertEqual(decode_block((0,), 0), (0,))
        self.assertEqual(len(decode_block((0,) * 16, 6)), 10)
        self.assertRaises(InvalidBlock, decode_block, (), 0)
        self.assertRaises(InvalidBlock, decode_block, (0,) * 17, 6)
        self.assertRaises(InvalidBlock, decode_block, (None,) * 17, 17)

    def test_numbers_of_check_symbols(self):
        for length in range(1, 17):
            received = (6,) * length
            self.assertEqual(decode_block(received, 0), received)
            self.assertEqual(decode_block(received, length - 1), (6,))
            self.assertRaises(InvalidBlock, decode_block, received, length)
            self.assertRaises(InvalidBlock, decode_block, received, length + 1)
            self.assertRaises(InvalidBlock, decode_block, received, -1)

    def test_other_kinds_of_arguments(self):
        for received in [[], [1, 2], "12", 1, None, True]:
            with self.subTest(received=received):
                self.assertRaises(InvalidBlock, decode_block, received, 1)
        for value in NOT_SYMBOLS:
            with self.subTest(value=value):
                self.assertRaises(InvalidBlock, decode_block, (1, value, None), 1)
        for check_count in NOT_NUMBERS:
            with self.subTest(check_count=check_count):
                self.assertRaises(InvalidBlock, decode_block, (1, 2, None), check_count)

    def test_kind_of_the_result(self):
        self.assertIs(type(decode_block((1, 1, 1), 2)), tuple)


if __name__ == "__main__":
    unittest.main()
