"""What holds for every function: point 1, and the files of the interface."""

import copy
import unittest
from functools import partial

from squaremark import assembly, codewords, encoding, gf16, labels, layout, orientation
from squaremark.errors import (
    InvalidBlock, InvalidCertificate, InvalidSide, InvalidStrength, InvalidSymbols, InvalidView, MismatchedPart,
)
from tests import drawing

PARTS = drawing.render("1" * 100, 1, True)
VIEWS = [drawing.view(image, 2 * part + 1) for part, image in enumerate(PARTS)]
SINGLE = drawing.render("7", 1)[0]
DAMAGED = drawing.hide(drawing.flip(SINGLE, [(4, 4), (0, 3)]), [(2, 2), (9, 9)])
FUNCTIONS = {
    gf16: ["add", "multiply", "divide"],
    codewords: ["encode_block", "decode_block", "find_certificate", "check_certificate"],
    encoding: ["encode_text", "count_encodings", "decode_symbols"],
    layout: ["data_capacity", "penalty"],
    labels: ["plan_labels", "render_labels", "decode_label", "decode_message"],
    orientation: [
        "rotate", "mirror", "orientations", "frame_errors", "normalize", "decode_any", "merge", "conflicts",
    ],
    assembly: ["assemble", "missing_parts", "inspect_parts"],
}
CALLS = [
    (gf16.add, (9, 12)),
    (gf16.multiply, (7, 12)),
    (gf16.divide, (3, 2)),
    (codewords.encode_block, ((1, 2, 3), 4)),
    (codewords.decode_block, ((7, 7, None, 6), 3)),
    (codewords.decode_block, ((5, 6, None), 2)),
    (codewords.find_certificate, ((1, 2, 3, 4), 3)),
    (codewords.find_certificate, ((None, None, 4), 1)),
    (codewords.find_certificate, (tuple(range(8)) * 2, 9)),
    (codewords.check_certificate, ((1, 2, 3, 4), 3, [(0,), (1,)])),
    (codewords.check_certificate, ((1, 2, 3, 4), 3, [(0,)])),
    (encoding.encode_text, ("Eat 7, or e7.",)),
    (encoding.encode_text, ("",)),
    (encoding.count_encodings, ("e7" * 100,)),
    (encoding.decode_symbols, ([12, 0, 2, 1, 15, 3],)),
    (layout.data_capacity, (14, 3)),
    (layout.penalty, (SINGLE,)),
    (labels.plan_labels, ("1234567",)),
    (partial(labels.plan_labels, strength=1), ("1234567",)),
    (labels.render_labels, ("",)),
    (partial(labels.render_labels, strength=3, spare=True), ("1" * 30,)),
    (labels.decode_label, (DAMAGED,)),
    (labels.decode_message, (DAMAGED,)),
    (orientation.rotate, (DAMAGED,)),
    (orientation.mirror, (DAMAGED,)),
    (orientation.orientations, (DAMAGED,)),
    (orientation.frame_errors, (DAMAGED,)),
    (orientation.normalize, (VIEWS[0],)),
    (orientation.decode_any, (VIEWS[0],)),
    (orientation.merge, ([SINGLE, DAMAGED],)),
    (orientation.conflicts, ([SINGLE, DAMAGED],)),
    (assembly.assemble, (VIEWS,)),
    (assembly.assemble, (VIEWS[1:],)),
    (assembly.missing_parts, (VIEWS[:1],)),
    (assembly.inspect_parts, (VIEWS[::-1],)),
]


def spoil(value):
    """Change all lists of a returned value."""
    if isinstance(value, (list, tuple)):
        for item in value:
            spoil(item)
    if isinstance(value, list):
        value.reverse()
        value.append("changed")


class EveryFunction(unittest.TestCase):
    def test_functions_are_defined_in_their_files(self):
        for module, names in FUNCTIONS.items():
            for name in names:
                self.assertEqual(getattr(module, name).__module__, module.__name__)

    def test_equal_calls_give_equal_results(self):
        for function, arguments in CALLS:
            with self.subTest(function=function, arguments=arguments):
                first = function(*copy.deepcopy(arguments))
                kept = copy.deepcopy(first)
                spoil(first)
                self.assertEqual(function(*copy.deepcopy(arguments)), kept)

    def test_arguments_are_not_modified(self):
        for function, arguments in CALLS:
            before = copy.deepcopy(arguments)
            function(*arguments)
            self.assertEqual(arguments, before)

    def test_arguments_are_not_kept(self):
        certificate = [(0,), (1,)]
        self.assertTrue(codewords.check_certificate((1, 2, 3, 4), 3, certificate))
        certificate.pop()
        self.assertFalse(codewords.check_certificate((1, 2, 3, 4), 3, certificate))
        symbols = [12, 0]
        self.assertEqual(encoding.decode_symbols(symbols), "e")
        symbols.append(1)
        self.assertEqual(encoding.decode_symbols(symbols), "et")
        views = [SINGLE]
        self.assertEqual(orientation.merge(views), SINGLE)
        views.append(DAMAGED)
        self.assertNotEqual(orientation.merge(views), SINGLE)
        self.assertEqual(orientation.conflicts(views), [(0, 3), (4, 4)])
        views = VIEWS[:1]
        self.assertEqual(assembly.missing_parts(views), [1, 2])
        views.append(VIEWS[2])
        self.assertEqual(assembly.missing_parts(views), [1])
        views.append(VIEWS[3])
        self.assertEqual(assembly.assemble(views), "1" * 100)

    def test_a_failed_call_changes_nothing(self):
        certificate = [(0,), [1]]
        symbols = [1, None]
        for _ in range(2):
            self.assertRaises(InvalidCertificate, codewords.check_certificate, (1, 2, 3, 4), 3, certificate)
            self.assertRaises(InvalidSymbols, encoding.decode_symbols, symbols)
        self.assertEqual((certificate, symbols), ([(0,), [1]], [1, None]))
        views = [SINGLE, None]
        others = [SINGLE, VIEWS[0]]
        for _ in range(2):
            self.assertRaises(InvalidView, orientation.merge, views)
            self.assertRaises(InvalidView, assembly.assemble, views)
            self.assertRaises(MismatchedPart, assembly.inspect_parts, others)
        self.assertEqual((views, others), ([SINGLE, None], [SINGLE, VIEWS[0]]))

    def test_arguments_may_be_given_by_name(self):
        self.assertEqual(gf16.add(right=9, left=12), 5)
        self.assertEqual(gf16.multiply(right=8, left=2), 3)
        self.assertEqual(gf16.divide(right=2, left=3), 8)
        self.assertEqual(codewords.encode_block(check_count=1, data=(4,)), (4, 4))
        self.assertEqual(codewords.decode_block(check_count=1, received=(4, 4)), (4,))
        self.assertEqual(codewords.find_certificate(check_count=0, received=(None,)), [])
        self.assertTrue(codewords.check_certificate(certificate=[], check_count=0, received=(None,)))
        self.assertEqual(encoding.encode_text(text="7"), [7])
        self.assertEqual(encoding.count_encodings(text="7"), 1)
        self.assertEqual(encoding.decode_symbols(symbols=(7,)), "7")
        self.assertEqual(layout.data_capacity(strength=2, side=10), 6)
        self.assertEqual(labels.plan_labels(strength=1, text="7"), (1, 10))
        self.assertEqual(labels.render_labels(spare=False, strength=1, text="7"), [SINGLE])
        for function in [
            layout.penalty, labels.decode_label, labels.decode_message, orientation.rotate, orientation.mirror,
            orientation.orientations, orientation.frame_errors,
        ]:
            self.assertEqual(function(image=SINGLE), function(SINGLE))
        for function in [orientation.normalize, orientation.decode_any]:
            self.assertEqual(function(view=SINGLE), function(SINGLE))
        for function in [
            orientation.merge, orientation.conflicts, assembly.assemble, assembly.missing_parts,
            assembly.inspect_parts,
        ]:
            self.assertEqual(function(views=[SINGLE]), function([SINGLE]))

    def test_arguments_are_checked_from_left_to_right(self):
        self.assertRaises(InvalidBlock, codewords.check_certificate, (), None, None)
        self.assertRaises(InvalidBlock, codewords.check_certificate, (1, 2), None, None)
        self.assertRaises(InvalidCertificate, codewords.check_certificate, (1, 2), 1, None)
        self.assertRaises(InvalidSide, layout.data_capacity, None, None)
        self.assertRaises(InvalidStrength, layout.data_capacity, 10, None)


if __name__ == "__main__":
    unittest.main()
