"""What holds for every function: point 1, and the files of the interface."""

import copy
import unittest

from squaremark import codewords, encoding, gf16
from squaremark.errors import InvalidBlock, InvalidCertificate, InvalidSymbols

FUNCTIONS = {
    gf16: ["add", "multiply", "divide"],
    codewords: ["encode_block", "decode_block", "find_certificate", "check_certificate"],
    encoding: ["encode_text", "count_encodings", "decode_symbols"],
}
CALLS = [
    (gf16.add, (9, 12)),
    (gf16.multiply, (7, 12)),
    (gf16.divide, (3, 2)),
    (codewords.encode_block, ((1, 2, 3), 4)),
    (codewords.decode_block, ((7, 7, None, 6), 3)),
    (codewords.decode_block, ((5, 6, None), 2)),
    (codewords.find_certificate, ((1, 2, 3, 4), 3)),
    (codewords.find_certificate, ((None, None, 4), 1)),
    (codewords.find_certificate, (tuple(range(8)) * 2, 9)),
    (codewords.check_certificate, ((1, 2, 3, 4), 3, [(0,), (1,)])),
    (codewords.check_certificate, ((1, 2, 3, 4), 3, [(0,)])),
    (encoding.encode_text, ("Eat 7, or e7.",)),
    (encoding.encode_text, ("",)),
    (encoding.count_encodings, ("e7" * 100,)),
    (encoding.decode_symbols, ([12, 0, 2, 1, 15, 3],)),
]


class EveryFunction(unittest.TestCase):
    def test_functions_are_defined_in_their_files(self):
        for module, names in FUNCTIONS.items():
            for name in names:
                self.assertEqual(getattr(module, name).__module__, module.__name__)

    def test_equal_calls_give_equal_results(self):
        for function, arguments in CALLS:
            with self.subTest(function=function.__name__, arguments=arguments):
                first = function(*copy.deepcopy(arguments))
                kept = copy.deepcopy(first)
                if isinstance(first, list):
                    first.reverse()
                    first.append("changed")
                self.assertEqual(function(*copy.deepcopy(arguments)), kept)

    def test_arguments_are_not_modified(self):
        for function, arguments in CALLS:
            before = copy.deepcopy(arguments)
            function(*arguments)
            self.assertEqual(arguments, before)

    def test_arguments_are_not_kept(self):
        certificate = [(0,), (1,)]
        self.assertTrue(codewords.check_certificate((1, 2, 3, 4), 3, certificate))
        certificate.pop()
        self.assertFalse(codewords.check_certificate((1, 2, 3, 4), 3, certificate))
        symbols = [12, 0]
        self.assertEqual(encoding.decode_symbols(symbols), "e")
        symbols.append(1)
        self.assertEqual(encoding.decode_symbols(symbols), "et")

    def test_a_failed_call_changes_nothing(self):
        certificate = [(0,), [1]]
        symbols = [1, None]
        for _ in range(2):
            self.assertRaises(InvalidCertificate, codewords.check_certificate, (1, 2, 3, 4), 3, certificate)
            self.assertRaises(InvalidSymbols, encoding.decode_symbols, symbols)
        self.assertEqual((certificate, symbols), ([(0,), [1]], [1, None]))

    def test_arguments_may_be_given_by_name(self):
        self.assertEqual(gf16.add(right=9, left=12), 5)
        self.assertEqual(gf16.multiply(right=8, left=2), 3)
        self.assertEqual(gf16.divide(right=2, left=3), 8)
        self.assertEqual(codewords.encode_block(check_count=1, data=(4,)), (4, 4))
        self.assertEqual(codewords.decode_block(check_count=1, received=(4, 4)), (4,))
        self.assertEqual(codewords.find_certificate(check_count=0, received=(None,)), [])
        self.assertTrue(codewords.check_certificate(certificate=[], check_count=0, received=(None,)))
        self.assertEqual(encoding.encode_text(text="7"), [7])
        self.assertEqual(encoding.count_encodings(text="7"), 1)
        self.assertEqual(encoding.decode_symbols(symbols=(7,)), "7")

    def test_arguments_are_checked_from_left_to_right(self):
        self.assertRaises(InvalidBlock, codewords.check_certificate, (), None, None)
        self.assertRaises(InvalidBlock, codewords.check_certificate, (1, 2), None, None)
        self.assertRaises(InvalidCertificate, codewords.check_certificate, (1, 2), 1, None)


if __name__ == "__main__":
    unittest.main()
