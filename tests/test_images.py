"""What is not an image: point 11, for every function that takes an image."""

import unittest

from squaremark.errors import InvalidImage
from squaremark.labels import decode_label, decode_message
from squaremark.layout import penalty
from squaremark.orientation import decode_any, frame_errors, mirror, normalize, orientations, rotate
from tests import drawing

FUNCTIONS = [
    penalty, decode_label, decode_message, rotate, mirror, orientations, frame_errors, normalize, decode_any,
]
NOT_STRINGS = [None, True, False, 0, 10, (), (".",) * 10, [], ["."] * 10]
NOT_CELLS = [" ", "x", "0", "1", "\n", "\x00", ",", "-", "\u2588", "\uff0e"]


class Images(unittest.TestCase):
    def check_invalid(self, image, row, column):
        for function in FUNCTIONS:
            with self.subTest(function=function.__name__, image=image):
                with self.assertRaises(InvalidImage) as caught:
                    function(image)
                self.assertEqual((caught.exception.row, caught.exception.column), (row, column))

    def test_valid_images(self):
        for side in drawing.SIDES:
            for cell in "#.?":
                image = (cell * side,) * side
                self.assertEqual(penalty(image), 2 * side * (side - 3))
                self.assertEqual(rotate(image), image)
                self.assertEqual(mirror(image), image)
                self.assertEqual(orientations(image), [image] * 8)
                self.assertEqual(frame_errors(image), drawing.count_frame_errors(image))

    def test_other_kinds(self):
        for value in [None, True, False, 0, 10, 16, "", "." * 10, "#" * 16, "." * 100]:
            self.check_invalid(value, 0, -1)

    def test_lists(self):
        for side in drawing.SIDES:
            self.check_invalid(["." * side] * side, 0, -1)
        self.check_invalid([], 0, -1)

    def test_wrong_number_of_rows(self):
        for count in [0, 1, 2, 8, 9, 11, 13, 15, 17, 18, 20, 60]:
            self.check_invalid(("." * count,) * count, 0, -1)
            self.check_invalid(("." * 10,) * count, 0, -1)
            self.check_invalid((None,) * count, 0, -1)

    def test_rows_that_are_no_strings(self):
        for value in NOT_STRINGS:
            for side in drawing.SIDES:
                for row in range(side):
                    rows = ["." * side] * side
                    rows[row] = value
                    self.check_invalid(tuple(rows), row, -1)

    def test_rows_of_a_wrong_length(self):
        for side in drawing.SIDES:
            for length in [0, 1, side - 2, side - 1, side + 1, side + 2, 2 * side]:
                for row in (0, 1, side - 1):
                    rows = ["." * side] * side
                    rows[row] = "." * length
                    self.check_invalid(tuple(rows), row, -1)
                self.check_invalid(("#" * length,) * side, 0, -1)

    def test_rows_of_another_side(self):
        for side in drawing.SIDES:
            for other in drawing.SIDES:
                if other != side:
                    self.check_invalid(("." * other,) * side, 0, -1)

    def test_every_cell(self):
        for side in drawing.SIDES:
            for row in range(side):
                for column in range(side):
                    image = drawing.change(("." * side,) * side, {(row, column): "x"})
                    self.check_invalid(image, row, column)

    def test_every_other_character(self):
        for cell in NOT_CELLS:
            image = drawing.change(("#" * 12,) * 12, {(3, 7): cell})
            self.check_invalid(image, 3, 7)

    def test_the_first_cell_counts(self):
        blank = ("." * 10,) * 10
        self.check_invalid(drawing.change(blank, {(2, 9): "x", (3, 0): "x"}), 2, 9)
        self.check_invalid(drawing.change(blank, {(2, 8): "x", (2, 9): "x", (9, 0): "x"}), 2, 8)
        self.check_invalid(("x" * 10,) * 10, 0, 0)

    def test_one_row_after_another(self):
        row = "." * 10
        self.check_invalid((".........x", None) + (row,) * 8, 0, 9)
        self.check_invalid((None, "x" * 10) + (row,) * 8, 0, -1)
        self.check_invalid((row, "....x.....", "." * 9) + (row,) * 7, 1, 4)
        self.check_invalid((row, "." * 9, "....x.....") + (row,) * 7, 1, -1)
        # A row of a wrong length is not searched for invalid cells.
        self.check_invalid((row, "x" * 11) + (row,) * 8, 1, -1)
        self.check_invalid((row, "x" * 9, "x" * 10) + (row,) * 7, 1, -1)

    def test_the_number_of_rows_comes_first(self):
        self.check_invalid(("x" * 11,) * 11, 0, -1)
        self.check_invalid((".........x",) * 9, 0, -1)


if __name__ == "__main__":
    unittest.main()
