"""Arithmetic of symbols: point 2."""

import unittest
from itertools import product

from squaremark.errors import InvalidSymbol
from squaremark.gf16 import add, divide, multiply
from tests import reference

NOT_SYMBOLS = [-1, 16, 1000, -16, True, False, None, "", "1", "a", (), (1,), [], [1], ((),), [None]]


def bits(symbol):
    return {bit for bit in range(4) if symbol // 2 ** bit % 2}


class Examples(unittest.TestCase):
    def test_examples(self):
        self.assertEqual(add(9, 12), 5)
        self.assertEqual(multiply(2, 8), 3)
        self.assertEqual(multiply(15, 15), 10)
        self.assertEqual(divide(3, 2), 8)
        self.assertRaises(InvalidSymbol, divide, 3, 0)


class AllPairs(unittest.TestCase):
    def test_add(self):
        for left, right in product(range(16), repeat=2):
            result = add(left, right)
            self.assertIn(result, range(16))
            self.assertEqual(bits(result), bits(left) ^ bits(right), (left, right))

    def test_multiply(self):
        for left, right in product(range(16), repeat=2):
            self.assertEqual(multiply(left, right), reference.times(left, right), (left, right))

    def test_multiply_by_doubling(self):
        def doubled(symbol):
            return add(2 * symbol - 16, 3) if 2 * symbol >= 16 else 2 * symbol

        for left, right in product(range(16), repeat=2):
            total = 0
            summand = left
            for bit in range(4):
                if bit in bits(right):
                    total = add(total, summand)
                summand = doubled(summand)
            self.assertEqual(multiply(left, right), total, (left, right))

    def test_divide(self):
        for left, right in product(range(16), range(1, 16)):
            fitting = [symbol for symbol in range(16) if reference.times(symbol, right) == left]
            self.assertEqual([divide(left, right)], fitting, (left, right))

    def test_results_are_plain_integers(self):
        for operation in (add, multiply, divide):
            for left, right in product(range(16), range(1, 16)):
                self.assertIs(type(operation(left, right)), int)


class InvalidSymbols(unittest.TestCase):
    def test_not_a_symbol(self):
        for operation in (add, multiply, divide):
            for value in NOT_SYMBOLS:
                with self.subTest(operation=operation, value=value):
                    self.assertRaises(InvalidSymbol, operation, value, 1)
                    self.assertRaises(InvalidSymbol, operation, 1, value)
                    self.assertRaises(InvalidSymbol, operation, value, 0)
                    self.assertRaises(InvalidSymbol, operation, 0, value)
                    self.assertRaises(InvalidSymbol, operation, value, value)

    def test_division_by_zero(self):
        for left in range(16):
            self.assertRaises(InvalidSymbol, divide, left, 0)

    def test_arguments_are_not_modified(self):
        value = [1]
        self.assertRaises(InvalidSymbol, add, value, 2)
        self.assertEqual(value, [1])


if __name__ == "__main__":
    unittest.main()
