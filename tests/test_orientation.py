"""Views in eight orientations: point 12."""

import unittest

from squaremark.errors import DecodeFailed, FrameNotFound, InvalidImage, SquaremarkError
from squaremark.labels import decode_label, render_labels
from squaremark.orientation import decode_any, frame_errors, mirror, normalize, orientations, rotate
from tests import drawing

KINDS = ("#.", "#.?", "##..", "#...?", "....?", "????????#")
LABELS = [render_labels(text, strength=strength)[0] for text, strength in [
    ("7", 1), ("24", 2), ("", 3), ("123456789", 1), ("Hi, Bob.", 2), ("The quick brown", 1), ("1" * 31, 2),
]]


def images(count):
    for seed in range(count):
        yield drawing.noise(drawing.SIDES[seed % 4], seed, KINDS[seed // 4 % len(KINDS)])


def expected_normal(view):
    """The orientation and the image, or None if two candidates tie."""
    found = drawing.candidates(view)
    errors = [drawing.count_frame_errors(image) for image in found]
    if errors.count(min(errors)) > 1:
        return None
    return errors.index(min(errors)), found[errors.index(min(errors))]


class Views(unittest.TestCase):
    def test_examples(self):
        image = ("#" * 10,) + ("." * 10,) * 9
        self.assertEqual(rotate(image)[0], ".........#")
        self.assertEqual(mirror(("##........",) * 10)[0], "........##")
        self.assertEqual(orientations(image)[2][9], "##########")
        with self.assertRaises(InvalidImage) as caught:
            rotate(("#" * 9,) * 9)
        self.assertEqual((caught.exception.row, caught.exception.column), (0, -1))

    def test_rotate(self):
        for image in images(48):
            side = len(image)
            rotated = rotate(image)
            for row in range(side):
                for column in range(side):
                    self.assertEqual(rotated[column][side - 1 - row], image[row][column])

    def test_mirror(self):
        for image in images(48):
            self.assertEqual(mirror(image), tuple("".join(list(row)[::-1]) for row in image))

    def test_rotated_clockwise(self):
        rows = ["." * 10] * 10
        rows[1] = "..#......."
        self.assertEqual([row for row in rotate(tuple(rows)) if "#" in row], ["........#."])
        self.assertEqual(rotate(tuple(rows))[2], "........#.")

    def test_eight_orientations(self):
        for image in images(48):
            views = orientations(image)
            self.assertEqual(len(views), 8)
            for orientation, view in enumerate(views):
                with self.subTest(orientation=orientation):
                    self.assertEqual(view, drawing.view(image, orientation))

    def test_orientations_by_their_definition(self):
        for image in LABELS:
            views = orientations(image)
            self.assertEqual(views[0], image)
            self.assertEqual(views[4], mirror(image))
            for orientation in (0, 1, 2, 4, 5, 6):
                self.assertEqual(views[orientation + 1], rotate(views[orientation]))
            self.assertEqual(rotate(views[3]), views[0])
            self.assertEqual(rotate(views[7]), views[4])
            self.assertEqual(len(set(views)), 8)

    def test_kinds_of_the_results(self):
        image = LABELS[0]
        self.assertIs(type(orientations(image)), list)
        for view in [rotate(image), mirror(image), *orientations(image), normalize(image)[1]]:
            self.assertIs(type(view), tuple)
            self.assertEqual({type(row) for row in view}, {str})
        self.assertIs(type(normalize(image)), tuple)
        self.assertIs(type(normalize(image)[0]), int)
        self.assertIs(type(frame_errors(image)), int)


class FrameErrors(unittest.TestCase):
    def test_example(self):
        self.assertEqual(frame_errors(("." * 10,) * 10), 14)

    def test_plain_images(self):
        for side in drawing.SIDES:
            dark = side + (side - 2) // 2
            self.assertEqual(frame_errors(("." * side,) * side), dark)
            self.assertEqual(frame_errors(("#" * side,) * side), 4 * (side - 1) - dark)
            self.assertEqual(frame_errors(("?" * side,) * side), 0)

    def test_labels(self):
        for image in LABELS:
            self.assertEqual(frame_errors(image), 0)
            for view in orientations(image):
                self.assertEqual(frame_errors(view), drawing.count_frame_errors(view))

    def test_each_cell(self):
        for image in (LABELS[0], LABELS[3], LABELS[5], LABELS[6]):
            frame = drawing.frame_cells(len(image))
            for cell in drawing.split_cells(image):
                self.assertEqual(frame_errors(drawing.flip(image, [cell])), int(cell in frame))
                self.assertEqual(frame_errors(drawing.hide(image, [cell])), 0)

    def test_unknown_cells(self):
        for image in LABELS:
            frame = drawing.frame_cells(len(image))
            wrong = drawing.flip(image, frame)
            self.assertEqual(frame_errors(wrong), len(frame))
            for count in range(0, len(frame) + 1, 5):
                self.assertEqual(frame_errors(drawing.hide(wrong, frame[:count])), len(frame) - count)
                self.assertEqual(frame_errors(drawing.hide(image, frame[:count])), 0)

    def test_noise(self):
        for image in images(96):
            self.assertEqual(frame_errors(image), drawing.count_frame_errors(image))


class Normalize(unittest.TestCase):
    def check(self, view):
        expected = expected_normal(view)
        if expected is None:
            self.assertRaises(FrameNotFound, normalize, view)
        else:
            self.assertEqual(normalize(view), expected)
        return expected

    def test_examples(self):
        label = LABELS[0]
        self.assertEqual(normalize(rotate(label)), (1, label))
        self.assertRaises(FrameNotFound, normalize, ("." * 10,) * 10)

    def test_every_orientation(self):
        for image in LABELS:
            for orientation in range(8):
                self.assertEqual(normalize(drawing.view(image, orientation)), (orientation, image))

    def test_the_argument_is_the_view_of_the_result(self):
        for view in images(96):
            if expected_normal(view) is not None:
                orientation, image = normalize(view)
                self.assertEqual(orientations(image)[orientation], view)

    def test_damaged_frame(self):
        for image in LABELS:
            frame = drawing.frame_cells(len(image))
            for orientation in range(8):
                for start in range(3):
                    wrong = frame[start::12]
                    unknown = frame[start + 1::5]
                    damaged = drawing.hide(drawing.flip(image, wrong), unknown)
                    view = drawing.view(damaged, orientation)
                    self.assertEqual(self.check(view), (orientation, damaged))

    def test_more_and_more_damage(self):
        results = {}
        for number, image in enumerate(LABELS):
            frame = drawing.frame_cells(len(image))
            for count in range(0, len(frame) + 1, 2):
                chosen = [frame[at % len(frame)] for at in drawing.numbers(count, count + number)]
                damaged = drawing.flip(image, sorted(set(chosen)))
                found = self.check(drawing.view(damaged, count // 2 % 8))
                results[found is None, found is not None and found[1] == damaged] = True
        # Some are read as they are, some in a wrong orientation, and some not at all.
        self.assertEqual(sorted(results), [(False, False), (False, True), (True, False)])

    def test_noise(self):
        results = [self.check(view) is None for view in images(192)]
        self.assertGreater(results.count(True), 10)
        self.assertGreater(results.count(False), 10)

    def test_a_tie_of_different_images(self):
        for image in LABELS:
            hidden = drawing.hide(image, drawing.frame_cells(len(image)))
            self.assertEqual(len(set(orientations(hidden))), 8)
            self.assertRaises(FrameNotFound, normalize, hidden)
            # Row 0 alone: the label and its mirror image tie.
            side = len(image)
            rest = [cell for cell in drawing.frame_cells(side) if cell[0] > 0]
            self.assertRaises(FrameNotFound, normalize, drawing.hide(image, rest))
            self.assertRaises(FrameNotFound, normalize, rotate(drawing.hide(image, rest)))
            # One more cell decides.
            for row in range(2, side - 1, 2):
                decided = drawing.hide(image, [cell for cell in rest if cell != (row, side - 1)])
                self.assertEqual(normalize(rotate(decided)), (1, decided))

    def test_a_tie_of_equal_images(self):
        for side in drawing.SIDES:
            for cell in "#.?":
                self.assertRaises(FrameNotFound, normalize, (cell * side,) * side)
            symmetric = tuple("#" * side if row == 0 else "." * side for row in range(side))
            self.assertEqual(mirror(symmetric), symmetric)
            self.assertRaises(FrameNotFound, normalize, symmetric)
            # Equal to its own mirror image along the diagonal, with few frame errors.
            cells = {}
            for row in range(side):
                for column in range(side):
                    cells[row, column] = "#" if 0 in (row, column) or row == column else "."
            diagonal = drawing.join_cells(cells, side)
            self.assertEqual(orientations(diagonal)[7], diagonal)
            for orientation in range(8):
                self.assertRaises(FrameNotFound, normalize, drawing.view(diagonal, orientation))

    def test_a_tie_of_other_than_the_fewest_is_none(self):
        for image in LABELS:
            errors = [drawing.count_frame_errors(candidate) for candidate in drawing.candidates(image)]
            self.assertLess(len(set(errors[1:])), 7)
            self.assertEqual(normalize(image), (0, image))


class DecodeAny(unittest.TestCase):
    def test_example(self):
        self.assertEqual(decode_any(mirror(LABELS[0]))[:3], (1, 0, 1))

    def test_every_orientation(self):
        for image in LABELS:
            for orientation in range(8):
                self.assertEqual(decode_any(drawing.view(image, orientation)), decode_label(image))

    def test_damaged_labels(self):
        for image in LABELS:
            frame = drawing.frame_cells(len(image))
            damaged = drawing.damage(drawing.flip(image, frame[1::12]), [1, 9])
            for orientation in range(8):
                view = drawing.view(damaged, orientation)
                self.assertEqual(decode_any(view), decode_label(normalize(view)[1]))
                self.assertEqual(decode_any(view), decode_label(image))

    def test_what_is_no_label(self):
        results = {}
        for view in images(192):
            expected = expected_normal(view)
            if expected is None:
                self.assertRaises(FrameNotFound, decode_any, view)
            else:
                self.assertEqual(self.outcome(decode_any, view), self.outcome(decode_label, expected[1]))
                results[self.outcome(decode_any, view)[0]] = True
        self.assertIn(DecodeFailed, results)

    def outcome(self, function, argument):
        try:
            return "result", function(argument)
        except SquaremarkError as error:
            return type(error), vars(error)

    def test_order_of_the_errors(self):
        image = LABELS[5]
        side = len(image)
        failing = drawing.erase(image, range(6, 25))
        self.assert_failed(failing, 0)
        self.assert_failed(rotate(failing), 0)
        self.assert_failed(mirror(drawing.erase(failing, range(4))), -1)
        hidden = drawing.hide(failing, drawing.frame_cells(side))
        self.assertRaises(FrameNotFound, decode_any, hidden)
        with self.assertRaises(InvalidImage) as caught:
            decode_any(drawing.change(hidden, {(3, 4): "x"}))
        self.assertEqual((caught.exception.row, caught.exception.column), (3, 4))
        self.assertRaises(InvalidImage, normalize, drawing.change(hidden, {(3, 4): "x"}))

    def assert_failed(self, view, block):
        with self.assertRaises(DecodeFailed) as caught:
            decode_any(view)
        self.assertEqual(caught.exception.block, block)


if __name__ == "__main__":
    unittest.main()
