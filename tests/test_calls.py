"""What holds for every function: point 1, and the files of the interface."""

import copy
import unittest
from functools import partial

from squaremark import assembly, codewords, encoding, gf16, labels, layout, orientation
from squaremark import scanner, scripts, sheet_codec, sheets
from squaremark.errors import (
    InvalidBlock, InvalidCertificate, InvalidCount, InvalidPlacement, InvalidSheet, InvalidSide, InvalidStrength,
    InvalidSymbols, InvalidView, MismatchedPart,
)
from tests import drawing, pages

PARTS = drawing.render("1" * 100, 1, True)
VIEWS = [drawing.view(image, 2 * part + 1) for part, image in enumerate(PARTS)]
SINGLE = drawing.render("7", 1)[0]
SHEET = pages.compose(40, 36, [(PARTS[3], 0, 0), (VIEWS[0], 20, 3), (VIEWS[1], 20, 20)])
SCRIPT = "sheet 30 30\ntext a 7\nstrength 1\nrepeat 2\nplace a 0 3\nmove 0 12\nend"
OPERATIONS = [("add_view", VIEWS[0]), ("add_view", VIEWS[3]), ("discard", 0), ("add_view", VIEWS[1])]
DAMAGED = drawing.hide(drawing.flip(SINGLE, [(4, 4), (0, 3)]), [(2, 2), (9, 9)])
FUNCTIONS = {
    gf16: ["add", "multiply", "divide"],
    codewords: ["encode_block", "decode_block", "find_certificate", "check_certificate"],
    encoding: ["encode_text", "count_encodings", "decode_symbols"],
    layout: ["data_capacity", "penalty"],
    labels: ["plan_labels", "render_labels", "decode_label", "decode_message"],
    orientation: [
        "rotate", "mirror", "orientations", "frame_errors", "normalize", "decode_any", "merge", "conflicts",
    ],
    assembly: ["assemble", "missing_parts", "inspect_parts"],
    sheets: ["compose", "locate", "crop", "scan", "scan_message"],
    scanner: ["Scanner", "replay"],
    scripts: ["run_script", "placements", "flatten"],
    sheet_codec: ["pack_bytes", "unpack_bytes", "encode_sheet", "encoded_length", "decode_sheet"],
}
METHODS = [
    "add_view", "statuses", "message", "merged_view", "discard", "history", "undo", "save", "restore", "checkpoints",
    "apply_all", "is_busy",
]
CALLS = [
    (gf16.add, (9, 12)),
    (gf16.multiply, (7, 12)),
    (gf16.divide, (3, 2)),
    (codewords.encode_block, ((1, 2, 3), 4)),
    (codewords.decode_block, ((7, 7, None, 6), 3)),
    (codewords.decode_block, ((5, 6, None), 2)),
    (codewords.find_certificate, ((1, 2, 3, 4), 3)),
    (codewords.find_certificate, ((None, None, 4), 1)),
    (codewords.find_certificate, (tuple(range(8)) * 2, 9)),
    (codewords.check_certificate, ((1, 2, 3, 4), 3, [(0,), (1,)])),
    (codewords.check_certificate, ((1, 2, 3, 4), 3, [(0,)])),
    (encoding.encode_text, ("Eat 7, or e7.",)),
    (encoding.encode_text, ("",)),
    (encoding.count_encodings, ("e7" * 100,)),
    (encoding.decode_symbols, ([12, 0, 2, 1, 15, 3],)),
    (layout.data_capacity, (14, 3)),
    (layout.penalty, (SINGLE,)),
    (labels.plan_labels, ("1234567",)),
    (partial(labels.plan_labels, strength=1), ("1234567",)),
    (labels.render_labels, ("",)),
    (partial(labels.render_labels, strength=3, spare=True), ("1" * 30,)),
    (labels.decode_label, (DAMAGED,)),
    (labels.decode_message, (DAMAGED,)),
    (orientation.rotate, (DAMAGED,)),
    (orientation.mirror, (DAMAGED,)),
    (orientation.orientations, (DAMAGED,)),
    (orientation.frame_errors, (DAMAGED,)),
    (orientation.normalize, (VIEWS[0],)),
    (orientation.decode_any, (VIEWS[0],)),
    (orientation.merge, ([SINGLE, DAMAGED],)),
    (orientation.conflicts, ([SINGLE, DAMAGED],)),
    (assembly.assemble, (VIEWS,)),
    (assembly.assemble, (VIEWS[1:],)),
    (assembly.missing_parts, (VIEWS[:1],)),
    (assembly.inspect_parts, (VIEWS[::-1],)),
    (sheets.compose, (30, 40, [(PARTS[0], 0, 3), (DAMAGED, 20, 5)])),
    (sheets.locate, (SHEET,)),
    (sheets.crop, (SHEET, 20, 3, 16)),
    (sheets.scan, (SHEET,)),
    (sheets.scan_message, (SHEET,)),
    (scripts.run_script, (SCRIPT,)),
    (scripts.placements, (SCRIPT,)),
    (scripts.flatten, (SCRIPT,)),
    (sheet_codec.pack_bytes, ([0, 255, 7],)),
    (sheet_codec.unpack_bytes, (b"\x00\xff\x07",)),
    (sheet_codec.encode_sheet, (SHEET,)),
    (sheet_codec.encoded_length, (SHEET,)),
    (sheet_codec.decode_sheet, (bytes([10, 12, 11, 200, 233]),)),
]
# What a scanner is asked; none of this changes it.
QUESTIONS = [
    ("statuses",), ("message",), ("merged_view", 1), ("merged_view", 3), ("history",), ("checkpoints",), ("is_busy",),
]


def spoil(value):
    """Change all lists of a returned value."""
    if isinstance(value, (list, tuple)):
        for item in value:
            spoil(item)
    if isinstance(value, list):
        value.reverse()
        value.append("changed")


class EveryFunction(unittest.TestCase):
    def test_functions_are_defined_in_their_files(self):
        for module, names in FUNCTIONS.items():
            for name in names:
                self.assertEqual(getattr(module, name).__module__, module.__name__)

    def test_methods_are_defined_in_their_class(self):
        for name in METHODS:
            self.assertIn(name, vars(scanner.Scanner))

    def test_equal_calls_give_equal_results(self):
        for function, arguments in CALLS:
            with self.subTest(function=function, arguments=arguments):
                first = function(*copy.deepcopy(arguments))
                kept = copy.deepcopy(first)
                spoil(first)
                self.assertEqual(function(*copy.deepcopy(arguments)), kept)

    def test_arguments_are_not_modified(self):
        for function, arguments in CALLS:
            before = copy.deepcopy(arguments)
            function(*arguments)
            self.assertEqual(arguments, before)

    def test_arguments_are_not_kept(self):
        certificate = [(0,), (1,)]
        self.assertTrue(codewords.check_certificate((1, 2, 3, 4), 3, certificate))
        certificate.pop()
        self.assertFalse(codewords.check_certificate((1, 2, 3, 4), 3, certificate))
        symbols = [12, 0]
        self.assertEqual(encoding.decode_symbols(symbols), "e")
        symbols.append(1)
        self.assertEqual(encoding.decode_symbols(symbols), "et")
        views = [SINGLE]
        self.assertEqual(orientation.merge(views), SINGLE)
        views.append(DAMAGED)
        self.assertNotEqual(orientation.merge(views), SINGLE)
        self.assertEqual(orientation.conflicts(views), [(0, 3), (4, 4)])
        views = VIEWS[:1]
        self.assertEqual(assembly.missing_parts(views), [1, 2])
        views.append(VIEWS[2])
        self.assertEqual(assembly.missing_parts(views), [1])
        views.append(VIEWS[3])
        self.assertEqual(assembly.assemble(views), "1" * 100)

    def test_a_failed_call_changes_nothing(self):
        certificate = [(0,), [1]]
        symbols = [1, None]
        for _ in range(2):
            self.assertRaises(InvalidCertificate, codewords.check_certificate, (1, 2, 3, 4), 3, certificate)
            self.assertRaises(InvalidSymbols, encoding.decode_symbols, symbols)
        self.assertEqual((certificate, symbols), ([(0,), [1]], [1, None]))
        views = [SINGLE, None]
        others = [SINGLE, VIEWS[0]]
        for _ in range(2):
            self.assertRaises(InvalidView, orientation.merge, views)
            self.assertRaises(InvalidView, assembly.assemble, views)
            self.assertRaises(MismatchedPart, assembly.inspect_parts, others)
        self.assertEqual((views, others), ([SINGLE, None], [SINGLE, VIEWS[0]]))

    def test_sheets_do_not_keep_their_items(self):
        items = [(SINGLE, 0, 0)]
        sheet = sheets.compose(30, 30, items)
        items.append((SINGLE, 15, 15))
        self.assertEqual(sheet, pages.compose(30, 30, items[:1]))
        self.assertEqual(sheets.compose(30, 30, items), pages.compose(30, 30, items))
        wrong = [(SINGLE, 0, 0), [SINGLE, 15, 15]]
        for _ in range(2):
            self.assertRaises(InvalidPlacement, sheets.compose, 30, 30, wrong)
        self.assertEqual(wrong, [(SINGLE, 0, 0), [SINGLE, 15, 15]])

    def test_arguments_may_be_given_by_name(self):
        self.assertEqual(gf16.add(right=9, left=12), 5)
        self.assertEqual(gf16.multiply(right=8, left=2), 3)
        self.assertEqual(gf16.divide(right=2, left=3), 8)
        self.assertEqual(codewords.encode_block(check_count=1, data=(4,)), (4, 4))
        self.assertEqual(codewords.decode_block(check_count=1, received=(4, 4)), (4,))
        self.assertEqual(codewords.find_certificate(check_count=0, received=(None,)), [])
        self.assertTrue(codewords.check_certificate(certificate=[], check_count=0, received=(None,)))
        self.assertEqual(encoding.encode_text(text="7"), [7])
        self.assertEqual(encoding.count_encodings(text="7"), 1)
        self.assertEqual(encoding.decode_symbols(symbols=(7,)), "7")
        self.assertEqual(layout.data_capacity(strength=2, side=10), 6)
        self.assertEqual(labels.plan_labels(strength=1, text="7"), (1, 10))
        self.assertEqual(labels.render_labels(spare=False, strength=1, text="7"), [SINGLE])
        for function in [
            layout.penalty, labels.decode_label, labels.decode_message, orientation.rotate, orientation.mirror,
            orientation.orientations, orientation.frame_errors,
        ]:
            self.assertEqual(function(image=SINGLE), function(SINGLE))
        for function in [orientation.normalize, orientation.decode_any]:
            self.assertEqual(function(view=SINGLE), function(SINGLE))
        for function in [
            orientation.merge, orientation.conflicts, assembly.assemble, assembly.missing_parts,
            assembly.inspect_parts,
        ]:
            self.assertEqual(function(views=[SINGLE]), function([SINGLE]))
        self.assertEqual(sheets.compose(items=[], columns=12, rows=10), pages.blank(10, 12))
        self.assertEqual(sheets.crop(side=16, column=3, row=20, sheet=SHEET), VIEWS[0])
        for function in [
            sheets.locate, sheets.scan, sheets.scan_message, sheet_codec.encode_sheet, sheet_codec.encoded_length,
        ]:
            self.assertEqual(function(sheet=SHEET), function(SHEET))
        for function in FUNCTIONS[scripts]:
            self.assertEqual(getattr(scripts, function)(source=SCRIPT), getattr(scripts, function)(SCRIPT))
        self.assertEqual(sheet_codec.pack_bytes(values=[7]), b"\x07")
        self.assertEqual(sheet_codec.unpack_bytes(data=b"\x07"), [7])
        self.assertEqual(sheet_codec.decode_sheet(data=sheet_codec.encode_sheet(SHEET)), SHEET)
        self.assertEqual(scanner.replay(operations=OPERATIONS).history(), OPERATIONS)

    def test_arguments_of_a_scanner_may_be_given_by_name(self):
        held = scanner.Scanner()
        self.assertEqual(held.add_view(view=SINGLE), (0, True))
        held.save(name="a")
        self.assertEqual(held.merged_view(part=0), SINGLE)
        self.assertEqual(held.discard(part=0), 1)
        held.restore(name="a")
        self.assertEqual(held.apply_all(operations=[("discard", 0)]), [1])

    def test_arguments_are_checked_from_left_to_right(self):
        self.assertRaises(InvalidBlock, codewords.check_certificate, (), None, None)
        self.assertRaises(InvalidBlock, codewords.check_certificate, (1, 2), None, None)
        self.assertRaises(InvalidCertificate, codewords.check_certificate, (1, 2), 1, None)
        self.assertRaises(InvalidSide, layout.data_capacity, None, None)
        self.assertRaises(InvalidStrength, layout.data_capacity, 10, None)
        self.assertRaises(InvalidCount, sheets.compose, None, None, None)
        self.assertRaises(InvalidPlacement, sheets.compose, 10, 10, None)
        self.assertRaises(InvalidSheet, sheets.crop, None, None, None, None)
        self.assertRaises(InvalidPlacement, sheets.crop, SHEET, None, None, None)


class EveryMethod(unittest.TestCase):
    def answers(self, held):
        return [copy.deepcopy(getattr(held, name)(*arguments)) for name, *arguments in QUESTIONS]

    def prepared(self):
        held = scanner.Scanner()
        held.save("empty")
        held.apply_all(copy.deepcopy(OPERATIONS))
        held.add_view(VIEWS[2])
        held.save("full")
        return held

    def test_equal_calls_give_equal_results(self):
        held = self.prepared()
        first = self.answers(held)
        for name, *arguments in QUESTIONS:
            spoil(getattr(held, name)(*arguments))
        self.assertEqual(self.answers(held), first)
        self.assertEqual(self.answers(self.prepared()), first)
        spoil(held.apply_all([]))
        self.assertEqual(self.answers(held), first)
        held.add_view(VIEWS[0])
        held.restore("full")
        self.assertEqual(self.answers(held), first)
        self.assertEqual(first[1], "1" * 100)

    def test_arguments_are_neither_modified_nor_kept(self):
        operations = list(OPERATIONS)
        held = scanner.Scanner()
        results = held.apply_all(operations)
        again = scanner.replay(operations)
        self.assertEqual(operations, OPERATIONS)
        spoil(operations)
        spoil(results)
        self.assertEqual((held.history(), again.history()), (OPERATIONS, OPERATIONS))
        held.undo()
        self.assertEqual(again.history(), OPERATIONS)

    def test_returned_histories_may_be_modified(self):
        held = self.prepared()
        history = held.history()
        spoil(history)
        self.assertEqual(held.history(), OPERATIONS + [("add_view", VIEWS[2])])
        while held.undo():
            spoil(held.history())
        self.assertEqual(held.statuses(), [])
        held.restore("full")
        self.assertEqual(held.history(), OPERATIONS + [("add_view", VIEWS[2])])


if __name__ == "__main__":
    unittest.main()
