"""Sheets, and what is placed on them: point 15."""

import unittest
from itertools import product

from squaremark.errors import InvalidCount, InvalidPlacement, InvalidSheet
from squaremark.labels import render_labels
from squaremark.sheet_codec import encode_sheet, encoded_length
from squaremark.sheets import compose, crop, locate, scan, scan_message
from tests import drawing, pages

FUNCTIONS = [
    locate, scan, scan_message, encode_sheet, encoded_length,
    lambda sheet: crop(sheet, 0, 0, 10), lambda sheet: crop(sheet, None, True, 11),
]
NOT_STRINGS = [None, True, False, 0, 10, (), (".",) * 10, [], ["."] * 10]
NOT_CELLS = [" ", "x", "0", "1", "\n", "\x00", ",", "-", "\u2588", "\uff0e"]
NOT_SIZES = [
    None, True, False, "", "10", "..........", (), (10,), [], [10], -10, -1, 0, 1, 8, 9, 61, 62, 100, 1000, 2 ** 70,
]
NOT_IMAGES = [
    None, True, False, 0, 10, "", "." * 10, (), [], ["." * 10] * 10, ("." * 10,) * 9, ("." * 10,) * 11,
    ("." * 11,) * 11, ("." * 9,) * 9, ("." * 60,) * 60, ("." * 10,) * 9 + (".........x",),
    ("." * 10,) * 9 + ("." * 9,), ("." * 10,) * 9 + (None,),
]
LABEL = render_labels("7", strength=1)[0]
LARGE = render_labels("1" * 25)[0]


class Sheets(unittest.TestCase):
    def check_invalid(self, sheet, row, column):
        for function in FUNCTIONS:
            with self.subTest(sheet=sheet):
                with self.assertRaises(InvalidSheet) as caught:
                    function(sheet)
                self.assertEqual((caught.exception.row, caught.exception.column), (row, column))

    def test_valid_sheets(self):
        for rows, columns in product((10, 11, 23, 59, 60), repeat=2):
            for cell in "#.?":
                sheet = pages.blank(rows, columns, cell)
                self.assertEqual(locate(sheet), [])
                self.assertEqual(scan(sheet), [])
                self.assertRaises(InvalidCount, scan_message, sheet)
                self.assertEqual(crop(sheet, 0, 0, 10), pages.blank(10, 10, cell))
                self.assertEqual(len(encode_sheet(sheet)), encoded_length(sheet))

    def test_other_kinds(self):
        for value in [None, True, False, 0, 10, 60, "", "." * 10, "#" * 60, "." * 100]:
            self.check_invalid(value, 0, -1)

    def test_lists(self):
        for count in (0, 10, 60):
            self.check_invalid(["." * count] * count, 0, -1)

    def test_wrong_number_of_rows(self):
        for count in [0, 1, 2, 8, 9, 61, 62, 100]:
            self.check_invalid(("." * 10,) * count, 0, -1)
            self.check_invalid(("." * count,) * count, 0, -1)
            self.check_invalid(("x" * 10,) * count, 0, -1)
            self.check_invalid((None,) * count, 0, -1)

    def test_rows_that_are_no_strings(self):
        for value in NOT_STRINGS:
            for rows, columns in [(10, 10), (13, 11), (60, 10), (10, 60)]:
                for row in (0, 1, rows // 2, rows - 1):
                    sheet = list(pages.blank(rows, columns))
                    sheet[row] = value
                    self.check_invalid(tuple(sheet), row, -1)

    def test_rows_of_an_invalid_length(self):
        for length in [0, 1, 8, 9, 61, 62, 200]:
            self.check_invalid(("." * length,) * 10, 0, -1)
            self.check_invalid(("." * length,) * 60, 0, -1)
            for row in (0, 1, 9):
                sheet = list(pages.blank(10, 10))
                sheet[row] = "." * length
                self.check_invalid(tuple(sheet), row, -1)

    def test_rows_unlike_the_first(self):
        for first, other in [(10, 11), (11, 10), (10, 60), (60, 10), (59, 60), (60, 59), (30, 31)]:
            for row in (1, 2, 11):
                sheet = list(pages.blank(12, first))
                sheet[row] = "#" * other
                self.check_invalid(tuple(sheet), row, -1)
            # The first row gives the length, whatever more of the rows have.
            self.check_invalid(("." * first,) + ("." * other,) * 11, 1, -1)

    def test_cells_at_every_edge(self):
        for rows, columns in [(10, 10), (10, 23), (31, 10), (60, 60)]:
            for row, column in product((0, 1, rows // 2, rows - 1), (0, 1, columns // 2, columns - 1)):
                sheet = pages.change(pages.blank(rows, columns), {(row, column): "x"})
                self.check_invalid(sheet, row, column)

    def test_every_other_character(self):
        for cell in NOT_CELLS:
            self.check_invalid(pages.change(pages.blank(12, 14, "#"), {(11, 13): cell}), 11, 13)

    def test_the_first_cell_counts(self):
        sheet = pages.blank(12, 20)
        self.check_invalid(pages.change(sheet, {(2, 19): "x", (3, 0): "x"}), 2, 19)
        self.check_invalid(pages.change(sheet, {(2, 18): "x", (2, 19): "x", (11, 0): "x"}), 2, 18)
        self.check_invalid(pages.blank(10, 10, "x"), 0, 0)

    def test_one_row_after_another(self):
        row = "." * 11
        self.check_invalid(("..........x", None) + (row,) * 8, 0, 10)
        self.check_invalid((None, "x" * 11) + (row,) * 8, 0, -1)
        self.check_invalid((row, "....x......", "." * 10) + (row,) * 7, 1, 4)
        self.check_invalid((row, "." * 10, "....x......") + (row,) * 7, 1, -1)
        # A row of a wrong length is not searched for invalid cells.
        self.check_invalid((row, "x" * 12) + (row,) * 8, 1, -1)
        self.check_invalid(("x" * 9,) + (row,) * 9, 0, -1)

    def test_the_number_of_rows_comes_first(self):
        self.check_invalid(("x" * 10,) * 9, 0, -1)
        self.check_invalid(("x" * 10,) * 61, 0, -1)


class Composing(unittest.TestCase):
    def check_invalid(self, index, rows, columns, items):
        with self.subTest(items=items):
            with self.assertRaises(InvalidPlacement) as caught:
                compose(rows, columns, items)
            self.assertEqual(caught.exception.index, index)

    def check_composed(self, rows, columns, items):
        with self.subTest(rows=rows, columns=columns, items=items):
            self.assertEqual(compose(rows, columns, items), pages.compose(rows, columns, items))

    def test_examples(self):
        self.assertEqual(compose(12, 14, [(LABEL, 1, 3)])[1], "...##########.")
        self.check_invalid(0, 10, 10, [(LABEL, 0, 1)])

    def test_sizes(self):
        for rows, columns in product((10, 11, 12, 35, 59, 60), repeat=2):
            self.assertEqual(compose(rows, columns, []), pages.blank(rows, columns))
            self.check_composed(rows, columns, [(LABEL, rows - 10, columns - 10)])

    def test_invalid_sizes(self):
        for size in NOT_SIZES:
            for other in (10, 60, 9, None):
                with self.subTest(size=size, other=other):
                    self.assertRaises(InvalidCount, compose, size, other, [])
                    self.assertRaises(InvalidCount, compose, other, size, [])
                    self.assertRaises(InvalidCount, compose, size, size, [(LABEL, 0, 0)])

    def test_sizes_come_before_items(self):
        for items in [None, True, 0, "", (), [None], [(LABEL, -1, 0)], [(LABEL, 0, 0), (LABEL, 0, 0)]]:
            self.assertRaises(InvalidCount, compose, 9, 10, items)
            self.assertRaises(InvalidCount, compose, 10, 61, items)
            self.check_invalid(1 if isinstance(items, list) and len(items) == 2 else 0, 60, 60, items)

    def test_items_that_are_no_list(self):
        for items in [None, True, False, 0, 1, "", "#", (), ((LABEL, 0, 0),), (LABEL, 0, 0), LABEL]:
            self.check_invalid(0, 60, 60, items)

    def test_items_of_another_form(self):
        for item in [
            None, True, 0, "", "abc", (), [], LABEL, [LABEL, 0, 0], (LABEL,), (LABEL, 0), (LABEL, 0, 0, 0),
            (0, 0, LABEL), ((LABEL, 0, 0),), (LABEL, (0, 0)),
        ]:
            self.check_item(item)

    def test_images_that_are_none(self):
        for image in NOT_IMAGES:
            self.check_item((image, 0, 0))

    def test_cells_that_are_none(self):
        for value in [None, True, False, "", "0", "1", (), (0,), [], [0]]:
            self.check_item((LABEL, value, 0))
            self.check_item((LABEL, 0, value))
            self.check_item((LABEL, value, value))

    def check_item(self, item):
        valid = [(LABEL, 22, 22), (LABEL, 40, 0), (LABEL, 40, 40)]
        self.check_invalid(0, 60, 60, [item])
        self.check_invalid(1, 60, 60, valid[:1] + [item] + valid[1:])
        self.check_invalid(3, 60, 60, valid + [item, None])

    def test_outside_on_each_side(self):
        for image in [LABEL, LARGE]:
            side = len(image)
            for row, column in product((-61, -side, -1, 0, 5, 30 - side, 31 - side, 29, 30, 31, 2 ** 70), repeat=2):
                with self.subTest(side=side, row=row, column=column):
                    if 0 <= row <= 30 - side and 0 <= column <= 30 - side:
                        self.check_composed(30, 30, [(image, row, column)])
                    else:
                        self.check_invalid(0, 30, 30, [(image, row, column)])

    def test_rows_are_not_columns(self):
        self.check_composed(10, 60, [(LABEL, 0, 50), (LABEL, 0, 20)])
        self.check_composed(60, 10, [(LABEL, 50, 0), (LABEL, 20, 0)])
        self.check_invalid(0, 10, 60, [(LABEL, 50, 0)])
        self.check_invalid(0, 60, 10, [(LABEL, 0, 50)])
        self.check_composed(13, 17, [(LABEL, 3, 7)])
        self.check_invalid(0, 13, 17, [(LABEL, 4, 7)])
        self.check_invalid(0, 13, 17, [(LABEL, 3, 8)])
        self.check_invalid(0, 12, 12, [(LARGE, 0, 0)])
        self.check_invalid(0, 60, 15, [(LARGE, 0, 0)])
        self.check_invalid(0, 15, 60, [(LARGE, 0, 0)])

    def test_every_neighborhood(self):
        # Each place of a second image around the first one: apart, touching or overlapping.
        for first, second in product((LABEL, LARGE), repeat=2):
            for row, column in product(range(0, 42), repeat=2):
                items = [(first, 20, 20), (second, row, column)]
                if pages.is_allowed(58, 58, items[:1], items[1]):
                    compose(58, 58, items)
                    continue
                self.check_invalid(1, 58, 58, items)

    def test_touching_images(self):
        # At an edge and at a corner the images touch; with a row or a column between them they do not.
        for at in (8, 9, 10):
            for cell in [(20, 20 + at), (20, 20 - at), (20 + at, 20), (20 - at, 20), (20 + at, 20 + at),
                         (20 + at, 20 - at), (20 - at, 20 + at), (20 - at, 20 - at)]:
                self.check_invalid(1, 60, 60, [(LABEL, 20, 20), (LABEL, *cell)])
        for cell in [(20, 31), (20, 9), (31, 20), (9, 20), (31, 31), (31, 9), (9, 31), (9, 9), (15, 31), (25, 9)]:
            self.check_composed(60, 60, [(LABEL, 20, 20), (LABEL, *cell)])

    def test_any_earlier_image(self):
        items = [(LABEL, 0, 0), (LABEL, 0, 11), (LARGE, 11, 0), (LABEL, 11, 17)]
        self.check_composed(27, 27, items)
        for other in items:
            self.check_invalid(4, 27, 27, items + [other])
        self.check_invalid(1, 27, 27, [items[3], (LABEL, 10, 10)] + items)

    def test_the_first_invalid_item(self):
        touching = (LABEL, 0, 10)
        outside = (LABEL, 0, 51)
        wrong = (LABEL, None, 0)
        for first, second in product((touching, outside, wrong, None), repeat=2):
            self.check_invalid(1, 60, 60, [(LABEL, 0, 0), first, second])
            self.check_invalid(2, 60, 60, [(LABEL, 0, 0), (LABEL, 20, 20), first, second])

    def test_images_with_unknown_cells(self):
        hidden = drawing.hide(LABEL, drawing.symbol_cells(10, 7) + [(0, 0), (9, 9)])
        blank = pages.blank(10, 10, "?")
        self.check_composed(21, 24, [(hidden, 0, 0), (blank, 11, 14), (drawing.noise(10, 5, "#.?"), 11, 0)])

    def test_cells_of_many_images(self):
        items = []
        for number in drawing.numbers(400, 9):
            side = drawing.SIDES[number % 4]
            item = (drawing.noise(side, number, "#.?"), number // 4 % 60, number // 256 % 60)
            if pages.is_allowed(60, 60, items, item):
                items.append(item)
            else:
                self.check_invalid(len(items), 60, 60, items + [item])
        self.assertGreater(len(items), 5)
        self.check_composed(60, 60, items)

    def test_a_full_sheet(self):
        items = [(LABEL, row, column) for row in range(0, 50, 11) for column in range(0, 50, 11)]
        self.assertEqual(len(items), 25)
        self.check_composed(54, 54, items)
        self.check_composed(54, 54, items[::-1])

    def test_kinds_of_the_result(self):
        sheet = compose(10, 12, [(LABEL, 0, 0)])
        self.assertIs(type(sheet), tuple)
        self.assertEqual({type(row) for row in sheet}, {str})


if __name__ == "__main__":
    unittest.main()
