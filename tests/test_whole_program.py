"""Messages on their whole way: the points 4, 8, 9, 11 to 14, 16, 17, 20 and 21 together."""

import unittest
from itertools import combinations, permutations

from squaremark.assembly import assemble
from squaremark.errors import (
    DecodeFailed, ExecutionFailed, FrameNotFound, InvalidCount, InvalidPlacement, InvalidSymbols, InvalidView,
    MismatchedPart, MissingParts,
)
from squaremark.labels import decode_message, plan_labels, render_labels
from squaremark.scanner import Scanner, replay
from squaremark.scripts import flatten, placements, run_script
from squaremark.sheet_codec import decode_sheet, encode_sheet
from squaremark.sheets import compose, crop, locate, scan, scan_message
from tests import drawing
from tests.drawing import small_label, small_labels

# A message of one to four parts for each strength.
TEXTS = {
    1: ["hello", "Meet me at the pier, 7 o'clock sharp.", "3" * 78, "Bring 12 eggs - and 3 loaves. " * 3],
    2: ["7", "ten tins in a tent at noon on site", "12-34" * 13, "1" * 124],
    3: ["", "1 2 3 4 5 6 7 8 9 0 " + "1" * 16, "e" * 73, "0" * 80],
}
# The upper left corners of up to nine labels on a sheet, with a row and a column between them.
CORNERS = [(row, column) for row in (0, 17, 44) for column in (44, 21, 3)]


def messages():
    """Each strength, number of parts and message."""
    for strength, texts in TEXTS.items():
        for part_count, text in enumerate(texts, 1):
            yield strength, part_count, text


def in_places(images, first=0):
    """A sheet with images in several orientations; they are found in another order."""
    items = [
        (drawing.view(image, (first + 3 * at) % 8), *CORNERS[(at + first) % 9]) for at, image in enumerate(images)
    ]
    return compose(60, 60, items)


def damaged(image, strength, seed):
    """The image with as many wrong or unknown symbols as each block can bear, and as the header can."""
    # The header has three check symbols: it bears one error and one erasure.
    image = drawing.erase(drawing.damage(image, [seed % 6]), [(seed + 3) % 6])
    for at, block in enumerate(drawing.body_indexes(len(image))):
        indexes = [6 + block[(seed + 2 * number) % len(block)] for number in range(2 * strength)]
        indexes = sorted(set(indexes), key=indexes.index)
        errors = strength - 1 + (seed + at) % 2
        image = drawing.damage(image, indexes[:errors])
        image = drawing.erase(image, indexes[errors:errors + 2 * strength - 2 * errors])
    return image


def script_for(text, strength, spare, parts):
    """A script that places parts of a message in several orientations."""
    lines = ["sheet 60 60", f"text note {text}", f"strength {strength}", f"spare {'on' if spare else 'off'}"]
    for at, part in enumerate(parts):
        row, column = CORNERS[at]
        lines += [f"at {row} {column}", f"place note {part} {(part + 5 * at) % 8}"]
    return "\n".join(lines)


class WholeProgram(unittest.TestCase):
    def ways(self, sheet):
        """The ways to read the labels of a sheet, each as a function without arguments."""
        copy = decode_sheet(encode_sheet(sheet))
        self.assertEqual(copy, sheet)
        areas = [crop(copy, row, column, side) for row, column, side, _ in locate(copy)]
        return [
            lambda: scan_message(copy), lambda: assemble(areas), lambda: self.show(areas).message(),
            lambda: replay(self.show(areas[::-1]).history()).message(),
        ]

    def show(self, views):
        scanner = Scanner()
        for view in views:
            scanner.add_view(view)
        return scanner

    def check_sheet(self, sheet, text):
        for way in self.ways(sheet):
            self.assertEqual(way(), text)

    def check_missing(self, sheet, parts):
        for way in self.ways(sheet):
            with self.assertRaises(MissingParts) as caught:
                way()
            self.assertEqual(caught.exception.parts, parts)


class Messages(WholeProgram):
    def test_every_label_without_damage(self):
        for strength, part_count, text in messages():
            self.assertEqual(plan_labels(text, strength=strength)[0], part_count)
            for spare in (False, True):
                labels = render_labels(text, strength=strength, spare=spare)
                sheet = in_places(labels, strength + part_count)
                self.assertEqual(len(locate(sheet)), part_count + spare)
                self.check_sheet(sheet, text)

    def test_every_orientation(self):
        for strength in (1, 2, 3):
            label = render_labels(TEXTS[strength][0], strength=strength)[0]
            for orientation in range(8):
                view = drawing.view(label, orientation)
                sheet = compose(30, 30, [(view, 3, 2)])
                self.assertEqual(locate(sheet), [(3, 2, len(label), orientation)])
                self.check_sheet(sheet, TEXTS[strength][0])
                self.assertEqual(decode_message(scanned_image(sheet)), TEXTS[strength][0])

    def test_damage_that_can_be_corrected(self):
        for strength, part_count, text in messages():
            labels = render_labels(text, strength=strength, spare=True)
            for seed in range(2):
                images = [damaged(label, strength, seed + part) for part, label in enumerate(labels)]
                self.assertNotEqual(images, labels)
                self.check_sheet(in_places(images[:part_count], seed), text)
                self.check_sheet(in_places(images, seed), text)
                left_out = (strength + seed) % part_count
                self.check_sheet(in_places(images[:left_out] + images[left_out + 1:], seed), text)

    def test_parts_left_out(self):
        for strength, part_count, text in messages():
            labels = render_labels(text, strength=strength, spare=True)
            for count in range(1, part_count + 1):
                for chosen in combinations(range(part_count + 1), count):
                    missing = tuple(part for part in range(part_count) if part not in chosen)
                    sheet = in_places([labels[part] for part in chosen], count)
                    if len(missing) > 1 or missing and part_count not in chosen:
                        self.check_missing(sheet, missing)
                    else:
                        self.check_sheet(sheet, text)

    def test_any_order(self):
        labels = render_labels(TEXTS[2][2], spare=True)
        for order in permutations(range(4)):
            self.check_sheet(in_places([labels[part] for part in order], order[0]), TEXTS[2][2])

    def test_parts_that_stand_there_twice(self):
        labels = render_labels(TEXTS[1][1], strength=1, spare=True)
        self.check_sheet(in_places(labels * 3, 5), TEXTS[1][1])
        self.check_sheet(in_places(labels[1:] * 4, 5), TEXTS[1][1])

    def test_frames_that_are_not_found(self):
        # `locate` needs an intact frame, but a scanner takes the view all the same.
        labels = render_labels(TEXTS[2][1], spare=True)
        views = [drawing.flip(label, [(0, 4), (5, 0)]) for label in labels]
        sheet = in_places(views)
        self.assertEqual(locate(sheet), [])
        self.assertRaises(InvalidCount, scan_message, sheet)
        self.assertEqual(self.show(views).message(), TEXTS[2][1])
        self.assertEqual(scan_message(in_places([views[0], labels[1], labels[2]])), TEXTS[2][1])


class ScriptsToMessages(WholeProgram):
    def test_scripts_and_sheets(self):
        for strength, part_count, text in messages():
            for spare in (False, True):
                parts = list(range(part_count + spare))
                source = script_for(text, strength, spare, parts[::-1])
                sheet = run_script(source)
                self.assertEqual(len(placements(source)), len(parts))
                found = [entry[:3] for entry in locate(sheet)]
                self.assertEqual(found, sorted(placements(source)))
                self.check_sheet(sheet, text)
                self.assertEqual(run_script(flatten(source)), sheet)

    def test_parts_left_out(self):
        for strength, part_count, text in messages():
            for left_out in range(part_count):
                parts = [part for part in range(part_count + 1) if part != left_out]
                self.check_sheet(run_script(script_for(text, strength, True, parts)), text)
                if part_count > 1:
                    self.check_missing(run_script(script_for(text, strength, False, parts[:-1])), (left_out,))

    def test_a_loop_over_labels(self):
        source = "sheet 60 60\nrepeat 4\ntext a hi there\nplace a 0 6\nmove 14 15\nend"
        sheet = run_script(source)
        self.assertEqual([entry[3] for entry in scan(sheet)], [6] * 4)
        self.check_sheet(sheet, "hi there")

    def test_two_messages_on_one_sheet(self):
        source = "sheet 40 40\ntext a eat\nplace a 0 0\nat 20 20\ntext b ten\nplace b 0 1"
        sheet = run_script(source)
        for way in (lambda: scan_message(sheet), lambda: scan_message(decode_sheet(encode_sheet(sheet)))):
            with self.assertRaises(MismatchedPart) as caught:
                way()
            self.assertEqual(caught.exception.index, 1)
        # For a scanner, these are two views of one part that contradict each other.
        scanner = self.show([crop(sheet, *entry) for entry in placements(source)])
        self.assertEqual(scanner.statuses(), ["unreadable", "missing"])

    def test_what_cannot_be_placed(self):
        label = render_labels("7")[0]
        with self.assertRaises(InvalidPlacement) as caught:
            compose(60, 60, [(label, 0, 0), (label, 10, 10)])
        self.assertEqual(caught.exception.index, 1)
        with self.assertRaises(ExecutionFailed) as caught:
            run_script("sheet 60 60\ntext a 7\nrepeat 2\nplace a 0 0\nmove 10 10\nend")
        self.assertEqual(caught.exception.row, 3)


class Errors(WholeProgram):
    def check_all(self, images, error, attributes, of_scanner=None):
        """Each way raises the error; for a scanner, the attributes may be other ones."""
        sheet = in_places(images)
        for at, way in enumerate(self.ways(sheet)):
            with self.assertRaises(error) as caught:
                way()
            if at > 1 and of_scanner is not None:
                self.assertEqual(vars(caught.exception), of_scanner)
            else:
                self.assertEqual(vars(caught.exception), attributes)

    def test_no_labels(self):
        for way in self.ways(compose(60, 60, [])):
            self.assertRaises(InvalidCount, way)

    def test_spare_labels_that_do_not_fit(self):
        labels = [small_label(0, 2), small_label(1, 2)]
        wrong = small_label(2, 2, (7,) * 6)
        # The sheet tells the labels of a row from the right to the left.
        self.check_all([*labels, wrong], MismatchedPart, {"index": 0}, {"index": 0})
        self.check_all([labels[0], wrong, labels[1]], MismatchedPart, {"index": 1}, {"index": 0})
        self.check_all([wrong, *labels], MismatchedPart, {"index": 2}, {"index": 0})

    def test_labels_of_another_message(self):
        for other in [small_label(1, 3), small_label(1, 2, (1,) * 8, 10, 1), small_label(1, 2, (1,) * 11, 12)]:
            self.check_all([other, small_label(0, 2), small_label(0, 2)], MismatchedPart, {"index": 2}, {"index": 0})

    def test_invalid_symbols(self):
        labels = small_labels((1, 2, 3, 4, 5, 6), (7, 13, 5, 14, 0, 0))
        self.check_all(labels, InvalidSymbols, {"index": 9})
        self.check_all(labels[1:], InvalidSymbols, {"index": 9})

    def test_labels_that_do_not_decode(self):
        labels = render_labels(TEXTS[2][3], spare=True)
        spoiled = drawing.erase(labels[2], range(6, 30))
        sheet = in_places([*labels[:2], spoiled, *labels[3:]])
        self.assertEqual([label is None for *_, label in scan(sheet)].count(True), 1)
        self.assertEqual(scan_message(sheet), TEXTS[2][3])
        self.assertEqual(self.show([*labels[:2], spoiled, *labels[3:]]).message(), TEXTS[2][3])
        with self.assertRaises(InvalidView) as caught:
            assemble([*labels[:2], spoiled, *labels[3:]])
        self.assertEqual(caught.exception.index, 2)
        without_spare = [*labels[:2], spoiled, labels[3]]
        for way in (lambda: scan_message(in_places(without_spare)), lambda: self.show(without_spare).message()):
            with self.assertRaises(MissingParts) as caught:
                way()
            self.assertEqual(caught.exception.parts, (2,))

    def test_views_that_a_scanner_does_not_take(self):
        label = render_labels("7")[0]
        self.assertRaises(DecodeFailed, self.show, [label, drawing.erase(label, range(4))])
        self.assertRaises(FrameNotFound, self.show, [label, ("." * 10,) * 10])
        self.assertEqual(scan_message(in_places([label, drawing.erase(label, range(4)), ("." * 10,) * 10])), "7")


def scanned_image(sheet):
    """The first label of a sheet in its original orientation."""
    row, column, side, orientation = locate(sheet)[0]
    return drawing.candidates(crop(sheet, row, column, side))[orientation]


if __name__ == "__main__":
    unittest.main()
