"""Labels found on sheets: point 16."""

import unittest
from itertools import combinations, product

from squaremark.errors import InvalidCount, InvalidPlacement, InvalidSheet, InvalidSymbols, MismatchedPart
from squaremark.errors import MissingParts
from squaremark.labels import decode_label, render_labels
from squaremark.sheets import compose, crop, locate, scan, scan_message
from tests import drawing, pages
from tests.drawing import small_label

LABEL = render_labels("7", strength=1)[0]
LABELS = {
    10: LABEL, 12: render_labels("1" * 9)[0], 14: render_labels("1" * 15)[0], 16: render_labels("1" * 25)[0],
}
SHEET = pages.compose(12, 14, [(LABEL, 1, 3)])
# With strength 1, this message takes three labels.
LONG = "Meet me at the pier, 7 o'clock sharp. " * 2
# The body of one label cannot be decoded, nor can the header of the other one.
NO_BODY = drawing.erase(LABEL, range(6, 12))
NO_HEADER = drawing.erase(LABEL, range(4))


def in_rows(images):
    """A sheet of up to nine images, three in a row."""
    width = len(images[0]) + 1
    return pages.compose(60, 60, [(image, at // 3 * width, at % 3 * width) for at, image in enumerate(images)])


class Locating(unittest.TestCase):
    def check(self, sheet, *expected):
        found = locate(sheet)
        self.assertEqual(found, pages.find_frames(sheet))
        self.assertEqual(found, sorted(found))
        if expected:
            self.assertEqual(found, list(expected))
        return found

    def test_example(self):
        self.assertEqual(locate(SHEET), [(1, 3, 10, 0)])

    def test_every_orientation(self):
        for side, label in LABELS.items():
            for orientation in range(8):
                view = drawing.view(label, orientation)
                self.check(pages.compose(20, 19, [(view, 2, 1)]), (2, 1, side, orientation))
                self.check(view, (0, 0, side, orientation))

    def test_edges_of_the_sheet(self):
        for side, label in LABELS.items():
            for rows, columns in [(side, side), (side, 60), (60, side), (23, 31)]:
                for row, column in product(sorted({0, rows - side}), sorted({0, columns - side})):
                    for orientation in (0, 3, 6):
                        sheet = pages.compose(rows, columns, [(drawing.view(label, orientation), row, column)])
                        self.check(sheet, (row, column, side, orientation))

    def test_areas_beyond_the_edges_are_not_found(self):
        for side, label in LABELS.items():
            larger = pages.compose(30, 30, [(label, 7, 9)])
            for sheet in [
                larger[8:], larger[:7 + side - 1], tuple(row[10:] for row in larger),
                tuple(row[:9 + side - 1] for row in larger),
            ]:
                self.check(sheet)
                self.assertEqual(locate(sheet), [])

    def test_a_changed_or_unknown_frame_cell(self):
        for side, orientation in [(10, 0), (12, 3), (14, 5), (16, 6)]:
            view = drawing.view(LABELS[side], orientation)
            sheet = pages.compose(20, 21, [(view, 3, 4)])
            for cell in drawing.frame_cells(side):
                for other in (drawing.OTHER[view[cell[0]][cell[1]]], "?"):
                    spoiled = pages.change(sheet, {(3 + cell[0], 4 + cell[1]): other})
                    self.assertEqual(locate(spoiled), [])
                    self.assertEqual(scan(spoiled), [])

    def test_cells_inside_do_not_matter(self):
        for cell in "#.?":
            for side in drawing.SIDES:
                image = drawing.change(LABELS[side], dict.fromkeys(drawing.inner_cells(side), cell))
                view = drawing.view(image, 7)
                # Cells of one color can form smaller frames inside the larger one.
                self.assertIn((1, 2, side, 7), self.check(pages.compose(18, 18, [(view, 1, 2)])))

    def test_areas_inside_others(self):
        outer = drawing.frame_cells(16)
        for orientation, other in product(range(8), repeat=2):
            inner = drawing.view(LABEL, other)
            for row, column in [(1, 1), (5, 5), (1, 5), (3, 2)]:
                cells = {(row + at, column + to): inner[at][to] for at, to in drawing.split_cells(inner)}
                self.assertFalse(set(outer) & set(cells))
                large = drawing.change(LABELS[16], cells)
                places = sorted([(0, 0, 16, 0), (row, column, 10, other)])
                self.assertEqual(locate(large), places)
            view = drawing.view(large, orientation)
            found = self.check(pages.compose(20, 20, [(view, 4, 1)]))
            self.assertEqual([entry[2] for entry in found], [16, 10])

    def test_areas_of_several_sides_at_one_cell(self):
        # The frames share the first row and the first column.
        sheet = pages.blank(16, 16)
        for side in (16, 12):
            for (row, column), color in pages.VIEWS[side][0].items():
                sheet = pages.change(sheet, {(row, column): color})
        found = self.check(sheet)
        self.assertEqual(found[:2], [(0, 0, 12, 0), (0, 0, 16, 0)])

    def test_overlapping_areas(self):
        found = set()
        for orientation, other, by, to in product(range(8), range(8), (0, 3, 9), (0, 5, 9)):
            sheet = pages.put(pages.compose(24, 24, [(drawing.view(LABEL, orientation), 2, 2)]),
                              drawing.view(LABEL, other), 2 + by, 2 + to)
            found.add(len(self.check(sheet)))
        self.assertEqual(found & {1, 2}, {1, 2})

    def test_ascending_order(self):
        items = [
            (drawing.view(LABELS[14], 6), 0, 40), (drawing.view(LABEL, 2), 1, 0), (drawing.view(LABEL, 7), 1, 20),
            (drawing.view(LABELS[16], 1), 20, 44), (drawing.view(LABELS[12], 4), 21, 0),
        ]
        self.check(
            pages.compose(40, 60, items[::-1]),
            (0, 40, 14, 6), (1, 0, 10, 2), (1, 20, 10, 7), (20, 44, 16, 1), (21, 0, 12, 4),
        )

    def test_sheets_without_frames(self):
        for seed in range(4):
            for kinds in ("#.", "#.?", "#", ".", "?", "####."):
                self.check(pages.speckled(20 + seed, 33 - seed, seed, kinds))

    def test_many_frames_among_other_cells(self):
        for seed in range(6):
            sheet = pages.speckled(33, 41, seed, "#.?")
            for number in drawing.numbers(7, seed):
                side = drawing.SIDES[number % 4]
                view = drawing.view(LABELS[side], number // 4 % 8)
                sheet = pages.put(sheet, view, number // 32 % (34 - side), number // 8 % (42 - side))
            self.assertGreater(len(self.check(sheet)), 0)


class Cropping(unittest.TestCase):
    def check_invalid(self, *arguments):
        with self.subTest(arguments=arguments[1:]):
            with self.assertRaises(InvalidPlacement) as caught:
                crop(*arguments)
            self.assertEqual(caught.exception.index, 0)

    def test_example(self):
        self.assertEqual(crop(SHEET, 1, 3, 10), LABEL)

    def test_every_edge(self):
        for rows, columns in [(10, 10), (16, 16), (17, 40), (60, 60), (60, 12), (13, 60)]:
            sheet = pages.speckled(rows, columns, rows + columns, "#.?")
            for side in drawing.SIDES:
                for row, column in product((-1, 0, 1, rows - side - 1, rows - side, rows - side + 1),
                                           (-1, 0, 1, columns - side - 1, columns - side, columns - side + 1)):
                    if 0 <= row <= rows - side and 0 <= column <= columns - side:
                        self.assertEqual(crop(sheet, row, column, side), pages.cut(sheet, row, column, side))
                    else:
                        self.check_invalid(sheet, row, column, side)

    def test_sides_that_no_label_has(self):
        sheet = pages.blank(60, 60)
        for side in [None, True, False, "", "10", (), (10,), [], [10], -10, -1, 0, 1, 9, 11, 13, 15, 17, 18, 20, 60]:
            for row, column in [(0, 0), (-1, 0), (None, None), (0, 99)]:
                self.check_invalid(sheet, row, column, side)

    def test_cells_that_are_none(self):
        sheet = pages.blank(60, 60)
        for value in [None, True, False, "", "0", (), (0,), [], [0], -1, -10, -60, 51, 60, 2 ** 70]:
            self.check_invalid(sheet, value, 0, 10)
            self.check_invalid(sheet, 0, value, 10)
            self.check_invalid(sheet, value, value, 10)

    def test_the_sheet_comes_first(self):
        for arguments in [(0, 0, 10), (-1, 0, 10), (0, 0, 11), (None, None, None)]:
            self.assertRaises(InvalidSheet, crop, None, *arguments)
            self.assertRaises(InvalidSheet, crop, pages.blank(9, 10), *arguments)

    def test_kinds_of_the_result(self):
        area = crop(SHEET, 1, 3, 10)
        self.assertIs(type(area), tuple)
        self.assertEqual({type(row) for row in area}, {str})


class Scanning(unittest.TestCase):
    def test_example(self):
        self.assertEqual([entry[:4] + entry[4][:3] for entry in scan(SHEET)], [(1, 3, 10, 0, 1, 0, 1)])

    def test_labels_in_every_orientation(self):
        for side, label in LABELS.items():
            for orientation in range(8):
                sheet = pages.compose(20, 19, [(drawing.view(label, orientation), 2, 1)])
                self.assertEqual(scan(sheet), [(2, 1, side, orientation, decode_label(label))])

    def test_labels_that_do_not_decode(self):
        wrong_header = drawing.paint(10, drawing.encode((12, 0, 1), 3), (0,) * 10, 0)
        for image in (NO_BODY, NO_HEADER, wrong_header):
            for orientation in range(8):
                view = drawing.view(image, orientation)
                sheet = pages.compose(24, 23, [(view, 0, 0), (LABEL, 11, 11)])
                self.assertEqual(scan(sheet), [(0, 0, 10, orientation, None), (11, 11, 10, 0, decode_label(LABEL))])

    def test_damaged_labels(self):
        image = drawing.erase(drawing.damage(LABELS[16], [7, 30]), [2, 44])
        for orientation in range(8):
            sheet = pages.compose(16, 16, [(drawing.view(image, orientation), 0, 0)])
            self.assertEqual(scan(sheet), [(0, 0, 16, orientation, decode_label(LABELS[16]))])

    def test_kinds_of_the_results(self):
        self.assertIs(type(locate(SHEET)), list)
        self.assertEqual({type(entry) for entry in locate(SHEET) + scan(SHEET)}, {tuple})
        self.assertIs(type(scan(SHEET)), list)
        self.assertIs(type(scan_message(SHEET)), str)


class ScanningMessages(unittest.TestCase):
    def check_index(self, error, images, index):
        with self.assertRaises(error) as caught:
            scan_message(in_rows(images))
        self.assertEqual(caught.exception.index, index)

    def check_missing(self, images, parts):
        with self.assertRaises(MissingParts) as caught:
            scan_message(in_rows(images))
        self.assertEqual(caught.exception.parts, parts)

    def test_examples(self):
        self.assertEqual(scan_message(SHEET), "7")
        self.assertRaises(InvalidCount, scan_message, ("." * 12,) * 12)

    def test_no_decoded_label(self):
        self.assertRaises(InvalidCount, scan_message, in_rows([NO_BODY, NO_HEADER]))
        self.assertRaises(InvalidCount, scan_message, in_rows([drawing.flip(LABEL, [(0, 4)])]))
        self.assertEqual(scan_message(in_rows([NO_BODY, NO_HEADER, LABEL])), "7")

    def test_any_order_and_orientation(self):
        labels = render_labels(LONG, strength=1)
        self.assertEqual(len(labels), 3)
        for first in range(8):
            images = [drawing.view(label, (first + 3 * part) % 8) for part, label in enumerate(labels)]
            self.assertEqual(scan_message(in_rows(images)), LONG)
            self.assertEqual(scan_message(in_rows(images[first % 3:] + images[:first % 3] + images[:1])), LONG)

    def test_missing_parts(self):
        labels = render_labels(LONG, strength=1, spare=True)
        for count in range(1, 4):
            for chosen in combinations(range(4), count):
                images = [labels[part] for part in chosen]
                missing = tuple(part for part in range(3) if part not in chosen)
                if missing and (len(missing) > 1 or 3 not in chosen):
                    self.check_missing(images, missing)
                    self.check_missing(images[::-1], missing)
                else:
                    self.assertEqual(scan_message(in_rows(images)), LONG)
                    self.assertEqual(scan_message(in_rows(images[::-1])), LONG)

    def test_a_part_that_does_not_decode_is_missing(self):
        labels = render_labels(LONG, strength=1, spare=True)
        spoiled = drawing.erase(labels[1], range(6, 40))
        self.check_missing([labels[0], spoiled, labels[2]], (1,))
        self.assertEqual(scan_message(in_rows([labels[0], spoiled, labels[2], labels[3]])), LONG)

    def test_mismatched_parts_count_the_decoded_labels(self):
        other = small_label(1, 2, (5,) * 6)
        views = [small_label(0, 2), small_label(1, 2)]
        self.check_index(MismatchedPart, views + [other], 2)
        self.check_index(MismatchedPart, [NO_BODY, views[0], NO_HEADER, NO_BODY, views[1], NO_BODY, other], 2)
        self.check_index(MismatchedPart, [NO_HEADER, views[0], small_label(0, 3)], 1)
        self.check_index(MismatchedPart, [views[0], small_label(1, 2, (1,) * 8, 10, 1)], 1)
        sheet = pages.compose(30, 30, [
            (NO_BODY, 0, 0), (views[0], 0, 11), (small_label(1, 2, (1,) * 11, 12), 12, 0),
        ])
        with self.assertRaises(MismatchedPart) as caught:
            scan_message(sheet)
        self.assertEqual(caught.exception.index, 1)

    def test_a_spare_label_that_does_not_fit(self):
        views = [small_label(0, 2), small_label(1, 2)]
        wrong = small_label(2, 2, (7,) * 6)
        self.check_index(MismatchedPart, [NO_BODY, views[0], NO_BODY, wrong, views[1], wrong], 1)
        self.check_index(MismatchedPart, [NO_BODY, wrong, views[0], views[1]], 0)
        self.check_missing([wrong], (0, 1))

    def test_invalid_symbols(self):
        parts = [(1, 2, 3, 4, 5, 6), (7, 13, 5, 14, 0, 0)]
        images = [small_label(part, 2, data) for part, data in enumerate(parts)]
        self.check_index(InvalidSymbols, images, 9)
        self.check_index(InvalidSymbols, images[::-1], 9)
        self.check_index(InvalidSymbols, [small_label(0, 1, (1,) * 5 + (13,))], 6)
        self.check_missing(images[1:], (0,))

    def test_the_order_is_that_of_locate(self):
        # The label at the upper left is the first one, wherever it stands in the list.
        items = [(small_label(0, 3), 11, 0), (small_label(0, 2), 0, 30), (small_label(1, 2), 0, 11)]
        with self.assertRaises(MismatchedPart) as caught:
            scan_message(compose(40, 40, items))
        self.assertEqual(caught.exception.index, 2)
        with self.assertRaises(MismatchedPart) as caught:
            scan_message(compose(40, 40, [items[0], (items[1][0], 22, 0), (items[2][0], 33 - 11, 11)]))
        self.assertEqual(caught.exception.index, 1)


if __name__ == "__main__":
    unittest.main()
