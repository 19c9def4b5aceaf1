"""Views collected by a scanner: point 17."""

import unittest
from itertools import product

from squaremark.errors import (
    DecodeFailed, FrameNotFound, InvalidCount, InvalidImage, InvalidSymbols, MismatchedPart, MissingParts, UnknownPart,
)
from squaremark.labels import decode_label, render_labels
from squaremark.orientation import merge, normalize
from squaremark.scanner import Scanner
from tests import drawing
from tests.drawing import small_label, small_labels
from tests.views import LABEL, LABELS, ScannerTests, TEXT, body_of, filled, with_header, without_body

NOT_PARTS = [None, True, False, "", "0", "decoded", (), (0,), [], [0], -1, -2, 4, 5, 15, 16, 100, 2 ** 70]


def views_of_headers(label, other):
    """Views that all have the header of a label, though together they show that of another one.

    Each view shows all symbols of the other header but one, and those that differ have an
    unknown cell: to decode them, they are erasures.
    """
    different = [index for index in range(6) if drawing.read(label, index) != drawing.read(other, index)]
    views = []
    for kept in different:
        cells = {}
        for index in different:
            if index != kept:
                cells.update(with_unknown_cell(label, other, drawing.symbol_cells(len(label), index)))
        views.append(drawing.change(label, cells))
    return views


def with_unknown_cell(label, other, cells):
    """The colors of cells in the second image, one cell with the same color in both unknown."""
    colors = {(row, column): other[row][column] for row, column in cells}
    same = [(row, column) for row, column in cells if label[row][column] == other[row][column]]
    return {**colors, same[0]: "?"}


def views_that_turn():
    """Two views whose merged image has fewer frame errors if it is mirrored.

    Three cells, which both views know, tell the label from its mirror image. Two other
    cells, not the same ones in both views, tell the opposite.
    """
    hidden = drawing.hide(LABEL, [(row, column) for row in (2, 4, 6, 8) for column in (0, 9)])
    both = {(2, 9): "#", (4, 9): "#", (6, 9): "#"}
    first = drawing.change(hidden, {**both, (8, 9): ".", (2, 0): "#"})
    second = drawing.change(hidden, {**both, (4, 0): "#", (6, 0): "#"})
    return first, second


class Adding(ScannerTests):
    def test_example(self):
        self.assertEqual(Scanner().add_view(LABEL), (0, True))

    def test_every_part_and_orientation(self):
        for first in range(8):
            scanner = Scanner()
            for part in (2, 3, 0, 1):
                view = drawing.view(LABELS[part], (first + part) % 8)
                self.assertEqual(scanner.add_view(view), (part, True))
                self.assertEqual(scanner.add_view(view), (part, True))

    def test_every_side_and_strength(self):
        for side, strength, part_count in product(drawing.SIDES, (1, 2, 3), (1, 2, 3, 4)):
            scanner = Scanner()
            for part in (part_count, 0):
                data = drawing.some_data(side, strength, part)
                view = drawing.draw(side, strength, part % 4, part, part_count, data)
                self.assertEqual(scanner.add_view(drawing.view(view, 5)), (part, True))
            self.assertEqual(len(scanner.statuses()), part_count + 1)

    def test_damaged_views(self):
        # A block of strength 1 has two check symbols: one error is corrected, two are not.
        once = drawing.damage(LABELS[1], [6])
        self.assertEqual(Scanner().add_view(once), (1, True))
        twice = drawing.erase(LABELS[1], [6, 9, 12])
        self.assertEqual(Scanner().add_view(twice), (1, False))

    def test_only_the_header_is_decoded(self):
        scanner = Scanner()
        for part, label in enumerate(LABELS):
            self.assertEqual(scanner.add_view(drawing.view(without_body(label), part)), (part, False))
        self.assertEqual(scanner.statuses(), ["unreadable"] * 4)

    def test_decoded_by_several_views(self):
        halves = [drawing.erase(LABELS[0], list(body_of(LABELS[0]))[start::2]) for start in (0, 1)]
        scanner = Scanner()
        self.assertEqual(scanner.add_view(drawing.view(halves[0], 3)), (0, False))
        self.assertEqual(scanner.add_view(drawing.view(halves[0], 1)), (0, False))
        self.assertEqual(scanner.add_view(drawing.view(halves[1], 6)), (0, True))

    def test_no_longer_decoded(self):
        wrong = drawing.flip(LABEL, [cell for index in body_of(LABEL) for cell in drawing.symbol_cells(10, index)[:2]])
        scanner = filled(LABEL)
        # With one view for and one against each color, the cells are unknown.
        self.assertEqual(scanner.add_view(wrong), (0, False))
        self.assertEqual(scanner.statuses(), ["unreadable", "missing"])
        self.assertEqual(scanner.add_view(LABEL), (0, True))

    def test_decoded_is_what_the_merged_views_tell(self):
        for seed in range(12):
            scanner = Scanner()
            images = [[] for _ in range(4)]
            for number in drawing.numbers(12, seed):
                part = number % 4
                image = drawing.change(LABELS[part], {
                    cell: drawing.OTHER[LABELS[part][cell[0]][cell[1]]] if other % 9 < 2 else "?"
                    for cell, other in zip(drawing.inner_cells(16), drawing.numbers(196, number))
                    if other % 9 < 4 and cell[0] > 2
                })
                images[part].append(image)
                decoded = self.decodes_as(merge(images[part]), (1, part, 3))
                self.assertEqual(scanner.add_view(drawing.view(image, number // 4 % 8)), (part, decoded))
                self.assertEqual(scanner.merged_view(part), merge(images[part]))

    def decodes_as(self, image, expected):
        try:
            return decode_label(image)[:3] == expected
        except DecodeFailed:
            return False

    def test_merged_views_that_tell_another_label(self):
        # A body of zeros is valid for each strength. The headers differ in one data symbol.
        label = drawing.draw(10, 1, 0, 1, 2, (0,) * 8)
        for header in [(4, 1, 2), (0, 2, 2), (0, 0, 2), (0, 1, 3), (0, 1, 1)]:
            with self.subTest(header=header):
                scanner = Scanner()
                views = views_of_headers(label, with_header(label, *header))
                self.assertEqual([decode_label(view) for view in views], [decode_label(label)] * 4)
                results = [scanner.add_view(view) for view in views]
                self.assertEqual(results[0], (1, True))
                self.assertEqual(results[3], (1, False))
                self.assertEqual(scanner.merged_view(1), with_header(label, *header))
                self.assertEqual(decode_label(scanner.merged_view(1))[:3], (header[0] // 4 + 1, *header[1:]))
                self.assertEqual(scanner.statuses(), ["missing", "unreadable", "missing"])
                with self.assertRaises(MissingParts) as caught:
                    scanner.message()
                self.assertEqual(caught.exception.parts, (0, 1))

    def test_merged_views_are_not_normalized_again(self):
        first, second = views_that_turn()
        merged = merge([first, second])
        self.assertEqual(normalize(merged)[0], 4)
        scanner = Scanner()
        self.assertEqual(scanner.add_view(first), (0, True))
        self.assertEqual(scanner.add_view(drawing.view(second, 5)), (0, True))
        self.assertEqual(scanner.merged_view(0), merged)
        self.assertEqual(scanner.statuses(), ["decoded", "missing"])
        self.assertEqual(scanner.message(), "7")

    def test_kinds_of_the_result(self):
        result = Scanner().add_view(LABEL)
        self.assertIs(type(result), tuple)
        self.assertEqual([type(value) for value in result], [int, bool])


class AddingErrors(ScannerTests):
    def scanners(self):
        """Scanners that hold nothing, nothing any more, one view, and several."""
        emptied = filled(LABEL)
        emptied.discard(0)
        return [Scanner(), emptied, filled(LABELS[2]), filled(LABELS[0], without_body(LABELS[3]), LABELS[0])]

    def check_error(self, error, attributes, view):
        for scanner in self.scanners():
            self.check_unchanged(scanner, error, attributes, "add_view", view)

    def test_what_is_not_an_image(self):
        for value in [
            None, True, False, 0, 16, "", "." * 10, (), [], list(LABEL), (".",) * 10, LABEL[1:], ("." * 11,) * 11,
        ]:
            self.check_error(InvalidImage, {"row": 0, "column": -1}, value)
        self.check_error(InvalidImage, {"row": 4, "column": -1}, LABEL[:4] + (None,) + LABEL[5:])
        self.check_error(InvalidImage, {"row": 4, "column": -1}, LABEL[:4] + ("." * 9,) + LABEL[5:])
        self.check_error(InvalidImage, {"row": 3, "column": 7}, drawing.change(LABEL, {(3, 7): "x", (4, 0): "x"}))

    def test_what_cannot_be_normalized(self):
        for side in drawing.SIDES:
            self.check_error(FrameNotFound, {}, ("." * side,) * side)
            self.check_error(FrameNotFound, {}, ("?" * side,) * side)
        self.check_error(FrameNotFound, {}, drawing.hide(LABELS[0], drawing.frame_cells(16)))

    def test_headers_that_do_not_decode(self):
        for label in (LABEL, LABELS[0], LABELS[1]):
            for orientation in (0, 3, 6):
                view = drawing.view(drawing.erase(label, range(4)), orientation)
                self.check_error(DecodeFailed, {"block": -1}, view)

    def test_invalid_headers(self):
        for header in [(12, 0, 3), (15, 0, 3), (0, 0, 0), (0, 0, 5), (0, 4, 3), (0, 2, 1), (0, 15, 15)]:
            self.check_error(DecodeFailed, {"block": -1}, with_header(LABELS[0], *header))

    def test_another_side_strength_or_part_count(self):
        scanner = filled(LABELS[1])
        for view in [
            LABEL, small_label(0, 3), small_label(0, 3, drawing.some_data(14, 1, 3), 14, 1),
            small_label(0, 3, drawing.some_data(16, 2, 3), 16, 2), small_label(0, 3, drawing.some_data(16, 3, 3), 16, 3),
            small_label(0, 2, drawing.some_data(16, 1, 3), 16, 1), small_label(1, 4, drawing.some_data(16, 1, 3), 16, 1),
        ]:
            self.check_unchanged(scanner, MismatchedPart, {"index": 0}, "add_view", view)
            self.check_unchanged(scanner, MismatchedPart, {"index": 0}, "add_view", drawing.view(without_body(view), 2))
        # The mask may differ, and so may the data.
        for mask in range(4):
            view = drawing.draw(16, 1, mask, 1, 3, drawing.some_data(16, 1, mask))
            self.assertEqual(scanner.add_view(view)[0], 1)

    def test_headers_come_before_mismatches(self):
        scanner = filled(LABELS[1])
        for view in [drawing.erase(LABEL, range(4)), with_header(LABEL, 0, 0, 5)]:
            self.check_unchanged(scanner, DecodeFailed, {"block": -1}, "add_view", view)
        self.check_unchanged(scanner, FrameNotFound, {}, "add_view", ("." * 10,) * 10)
        self.check_unchanged(scanner, InvalidImage, {"row": 0, "column": -1}, "add_view", LABEL[1:])

    def test_the_part_does_not_matter_for_a_mismatch(self):
        scanner = filled(LABELS[3])
        self.assertEqual(scanner.add_view(LABELS[0]), (0, True))
        self.check_unchanged(scanner, MismatchedPart, {"index": 0}, "add_view", small_label(3, 3))


class Statuses(ScannerTests):
    def test_example(self):
        self.assertEqual(filled(LABEL).statuses(), ["decoded", "missing"])

    def test_no_view(self):
        self.assertEqual(Scanner().statuses(), [])

    def test_every_mixture(self):
        for kinds in product(range(3), repeat=4):
            scanner = Scanner()
            for part, kind in enumerate(kinds):
                if kind:
                    scanner.add_view([None, LABELS[part], without_body(LABELS[part])][kind])
            if any(kinds):
                self.assertEqual(scanner.statuses(), [("missing", "decoded", "unreadable")[kind] for kind in kinds])
            else:
                self.assertEqual(scanner.statuses(), [])

    def test_every_part_count(self):
        for part_count in (1, 2, 3, 4):
            for part in range(part_count + 1):
                scanner = filled(drawing.view(small_label(part, part_count), part))
                expected = ["missing"] * (part_count + 1)
                expected[part] = "decoded"
                self.assertEqual(scanner.statuses(), expected)

    def test_returned_lists_are_not_kept(self):
        scanner = filled(LABEL)
        scanner.statuses().clear()
        scanner.statuses().append("missing")
        self.assertEqual(scanner.statuses(), ["decoded", "missing"])


class Messages(ScannerTests):
    def check_missing(self, scanner, parts):
        self.check_unchanged(scanner, MissingParts, {"parts": parts}, "message")

    def test_examples(self):
        self.assertEqual(filled(LABEL).message(), "7")
        self.assertRaises(InvalidCount, Scanner().message)

    def test_no_views(self):
        self.check_unchanged(Scanner(), InvalidCount, {}, "message")
        scanner = filled(LABELS[0], LABELS[3])
        scanner.discard(3)
        scanner.discard(0)
        self.check_unchanged(scanner, InvalidCount, {}, "message")

    def test_every_set_of_labels(self):
        for kinds in product(range(3), repeat=4):
            if any(kinds):
                scanner = Scanner()
                for part in (3, 1, 0, 2):
                    if kinds[part]:
                        scanner.add_view([None, LABELS[part], without_body(LABELS[part])][kinds[part]])
                missing = tuple(part for part in range(3) if kinds[part] != 1)
                if not missing or len(missing) == 1 and kinds[3] == 1:
                    self.assertEqual(scanner.message(), TEXT)
                else:
                    self.check_missing(scanner, missing)

    def test_one_part_that_cannot_be_decoded(self):
        self.check_missing(filled(without_body(LABEL)), (0,))

    def test_the_spare_label_of_one_part(self):
        label, spare = render_labels("eat", spare=True)
        self.assertEqual(filled(spare).message(), "eat")
        self.assertEqual(filled(spare, without_body(label)).message(), "eat")
        self.check_missing(filled(without_body(spare)), (0,))

    def test_inconsistent_spare_label(self):
        labels = small_labels((1,) * 6, (2,) * 6, (15, 0, 0, 0, 0, 0))
        wrong = small_label(3, 3, (7,) * 6)
        self.assertEqual(filled(*labels).message(), "1" * 6 + "2" * 6)
        for order in [(wrong, *labels[:3]), (*labels[:3], wrong), (labels[2], wrong, labels[0], labels[1])]:
            self.check_unchanged(filled(*order), MismatchedPart, {"index": 0}, "message")
        # It is compared only if all parts are there, and only if it can be decoded.
        self.assertEqual(filled(wrong, *labels[:2]).message(), "1" * 6 + "2" * 6 + "4" * 6)
        self.check_missing(filled(wrong, labels[2]), (0, 1))
        self.assertEqual(filled(without_body(wrong), *labels[:3]).message(), "1" * 6 + "2" * 6)
        # 1 + 15 + 7 = 9 and 1 + 0 + 7 = 6: these are the symbols of the part that is recovered.
        scanner = filled(wrong, without_body(labels[1]), labels[0], labels[2])
        self.assertEqual(scanner.message(), "1" * 6 + "9" + "6" * 5)

    def test_invalid_symbols(self):
        labels = small_labels((1, 2, 3, 4, 5, 6), (7, 13, 5, 14, 0, 0))
        self.check_unchanged(filled(*labels), InvalidSymbols, {"index": 9}, "message")
        self.check_unchanged(filled(*labels[1:]), InvalidSymbols, {"index": 9}, "message")
        self.check_missing(filled(labels[1]), (0,))
        wrong = small_label(2, 2, (7,) * 6)
        self.check_unchanged(filled(*labels[:2], wrong), MismatchedPart, {"index": 0}, "message")
        incomplete = small_label(0, 1, (1, 1, 1, 1, 1, 13))
        self.check_unchanged(filled(incomplete), InvalidSymbols, {"index": 6}, "message")

    def test_several_views_of_each_part(self):
        scanner = Scanner()
        for start in (0, 1):
            for part, label in enumerate(LABELS[:3]):
                hidden = drawing.erase(label, list(body_of(label))[start::2])
                self.assertEqual(scanner.add_view(drawing.view(hidden, part + start)), (part, start == 1))
        self.assertEqual(scanner.message(), TEXT)


class MergedViews(ScannerTests):
    def test_example(self):
        self.assertEqual(filled(LABEL).merged_view(0), LABEL)

    def test_every_part(self):
        scanner = Scanner()
        images = [[], [], [], []]
        for at in range(3):
            for part in range(4):
                image = drawing.damage(drawing.erase(LABELS[part], [7 + at]), [8 + 2 * at])
                images[part].append(image)
                scanner.add_view(drawing.view(image, (at + part) % 8))
                self.assertEqual(scanner.merged_view(part), merge(images[part]))
        self.assertEqual([merge(images[part]) for part in range(4)], [scanner.merged_view(part) for part in range(4)])

    def test_unreadable_parts(self):
        image = without_body(LABELS[3])
        self.assertEqual(filled(drawing.view(image, 7)).merged_view(3), image)

    def test_unknown_parts(self):
        for scanner in [Scanner(), filled(*LABELS), filled(LABELS[0])]:
            for value in NOT_PARTS:
                with self.subTest(value=value):
                    self.check_unchanged(scanner, UnknownPart, {}, "merged_view", value)
        for part in (1, 2, 3):
            self.check_unchanged(filled(LABELS[0]), UnknownPart, {}, "merged_view", part)
        self.check_unchanged(Scanner(), UnknownPart, {}, "merged_view", 0)
        # True and False are not parts, whatever there is.
        self.check_unchanged(filled(LABELS[1]), UnknownPart, {}, "merged_view", True)


class Discarding(ScannerTests):
    def test_example(self):
        self.assertEqual(filled(LABEL).discard(0), 1)

    def test_number_of_views(self):
        scanner = filled(LABELS[0], LABELS[1], LABELS[0], LABELS[3], without_body(LABELS[0]))
        self.assertEqual(scanner.discard(0), 3)
        self.assertEqual(scanner.statuses(), ["missing", "decoded", "missing", "decoded"])
        self.assertEqual(scanner.discard(3), 1)
        self.assertEqual(scanner.statuses(), ["missing", "decoded", "missing", "missing"])
        self.assertEqual(scanner.merged_view(1), LABELS[1])
        self.check_unchanged(scanner, UnknownPart, {}, "discard", 0)
        self.assertEqual(scanner.discard(1), 1)
        self.assertEqual(scanner.statuses(), [])

    def test_views_that_are_added_again(self):
        scanner = filled(LABELS[0], drawing.flip(LABELS[0], [(5, 5), (9, 9)]))
        self.assertEqual(scanner.discard(0), 2)
        self.assertEqual(scanner.add_view(LABELS[0]), (0, True))
        self.assertEqual(scanner.merged_view(0), LABELS[0])
        self.assertEqual(scanner.discard(0), 1)

    def test_any_label_after_all_views_were_discarded(self):
        for other in [LABEL, small_label(1, 4), small_label(0, 1, drawing.some_data(16, 3, 1), 16, 3)]:
            scanner = filled(LABELS[0], LABELS[3])
            scanner.discard(0)
            self.check_unchanged(scanner, MismatchedPart, {"index": 0}, "add_view", other)
            scanner.discard(3)
            part, decoded = scanner.add_view(other)
            self.assertTrue(decoded)
            self.assertEqual(scanner.merged_view(part), other)
            self.check_unchanged(scanner, MismatchedPart, {"index": 0}, "add_view", LABELS[0])

    def test_unknown_parts(self):
        for scanner in [Scanner(), filled(*LABELS), filled(LABELS[0])]:
            for value in NOT_PARTS:
                with self.subTest(value=value):
                    self.check_unchanged(scanner, UnknownPart, {}, "discard", value)
        for part in (1, 2, 3):
            self.check_unchanged(filled(LABELS[0]), UnknownPart, {}, "discard", part)
        self.check_unchanged(Scanner(), UnknownPart, {}, "discard", 0)
        self.check_unchanged(filled(LABELS[1]), UnknownPart, {}, "discard", True)


if __name__ == "__main__":
    unittest.main()
