"""Several views of one label: point 13."""

import unittest
from itertools import product

from squaremark.errors import InvalidCount, InvalidView
from squaremark.labels import render_labels
from squaremark.orientation import conflicts, merge, mirror, normalize, rotate
from tests import drawing

LABELS = {len(image): image for image in [
    render_labels("7", strength=1)[0], render_labels("1" * 9)[0], render_labels("1" * 15)[0],
    render_labels("1" * 25)[0],
]}
NOT_LISTS = [None, True, False, 0, 1, "", "#", (), (LABELS[10],), LABELS[10]]
NOT_VIEWS = [
    None, True, False, 0, 10, "", "." * 10, (), [], list(LABELS[10]), LABELS[10][1:], ("x" * 10,) * 10,
    (None,) * 10, ("#" * 9,) * 9, LABELS[10][:9] + (".........",), LABELS[10][:9] + ("....x.....",),
]


def merged(cells):
    """The cell for the cells that the views have there."""
    if cells.count("#") == cells.count("."):
        return "?"
    return "#" if cells.count("#") > cells.count(".") else "."


def merged_image(images):
    """What the merged views show, from their normalized images."""
    side = len(images[0])
    return tuple(
        "".join(merged([image[row][column] for image in images]) for column in range(side)) for row in range(side)
    )


def conflicting(images):
    side = len(images[0])
    return [
        (row, column) for row in range(side) for column in range(side)
        if {"#", "."} <= {image[row][column] for image in images}
    ]


def noisy(image, seed):
    """The image with some wrong and some unknown cells, the frame intact enough."""
    cells = {}
    frame = drawing.frame_cells(len(image))
    for (row, column), number in zip(drawing.split_cells(image), drawing.numbers(len(image) ** 2, seed)):
        if number % 10 == 0 and ((row, column) not in frame or number % 40 == 0):
            cells[row, column] = drawing.OTHER[image[row][column]]
        elif number % 10 in (1, 2):
            cells[row, column] = "?"
    return drawing.change(image, cells)


class Merge(unittest.TestCase):
    def test_examples(self):
        label = LABELS[10]
        self.assertEqual(merge([rotate(label), mirror(label)]), label)
        with self.assertRaises(InvalidView) as caught:
            merge([None])
        self.assertEqual(caught.exception.index, 0)
        self.assertEqual(conflicts([label, rotate(label)]), [])

    def test_one_view(self):
        for image in LABELS.values():
            for orientation in range(8):
                view = drawing.view(image, orientation)
                self.assertEqual(merge([view]), image)
                self.assertEqual(conflicts([view]), [])
            hidden = drawing.hide(image, drawing.inner_cells(len(image)))
            self.assertEqual(merge([rotate(hidden)]), hidden)

    def test_every_combination_of_cells(self):
        for count, side in [(1, 10), (2, 10), (3, 10), (4, 12), (4, 16)]:
            choices = list(product("#.?", repeat=count))
            places = drawing.inner_cells(side)[5:]
            views = [
                drawing.view(
                    drawing.change(LABELS[side], {place: cells[at] for place, cells in zip(places, choices)}),
                    3 * at % 8,
                )
                for at in range(count)
            ]
            result = merge(views)
            expected = {place: merged(cells) for place, cells in zip(places, choices)}
            self.assertEqual(len(expected), len(choices))
            self.assertEqual(result, drawing.change(LABELS[side], expected))
            self.assertEqual(conflicts(views), [
                place for place, cells in zip(places, choices) if "#" in cells and "." in cells
            ])

    def test_majorities(self):
        image = LABELS[10]
        dark, light, unknown = [drawing.change(image, {(4, 4): cell}) for cell in "#.?"]
        for views, cell in [
            ([dark, dark, light], "#"), ([light, dark, dark], "#"), ([dark, light, light], "."), ([dark, light], "?"),
            ([dark, light, unknown], "?"), ([unknown, unknown, dark], "#"), ([unknown, light], "."),
            ([unknown], "?"), ([unknown] * 3, "?"), ([dark, dark, light, light], "?"), ([light] * 3 + [dark] * 4, "#"),
            ([light] * 3 + [dark] * 2 + [unknown] * 9, "."), ([dark] * 20 + [light] * 20, "?"),
        ]:
            with self.subTest(cell=cell, count=len(views)):
                self.assertEqual(merge(views), drawing.change(image, {(4, 4): cell}))
                expected = [(4, 4)] if dark in views and light in views else []
                self.assertEqual(conflicts(views), expected)

    def test_views_in_different_orientations(self):
        for side, image in LABELS.items():
            for seed in range(6):
                images = [noisy(image, seed + at) for at in range(2 + seed)]
                views = [drawing.view(other, (at + seed) % 8) for at, other in enumerate(images)]
                self.assertEqual([normalize(view)[1] for view in views], images)
                self.assertEqual(merge(views), merged_image(images))
                self.assertEqual(conflicts(views), conflicting(images))

    def test_frame_cells(self):
        image = LABELS[12]
        wrong = drawing.flip(image, [(0, 3), (5, 11), (11, 0)])
        hidden = drawing.hide(image, [(0, 3), (0, 4)])
        self.assertEqual(merge([wrong, rotate(hidden)]), drawing.change(
            image, {(0, 3): ".", (5, 11): "?", (11, 0): "?"},
        ))
        self.assertEqual(conflicts([wrong, rotate(hidden)]), [(5, 11), (11, 0)])
        self.assertEqual(merge([mirror(wrong), image, image]), image)

    def test_the_result_is_not_normalized_again(self):
        # Three cells, which both views know, tell the label from its mirror image. Two other
        # cells, not the same ones in both views, tell the opposite.
        image = LABELS[10]
        hidden = drawing.hide(image, [(row, column) for row in (2, 4, 6, 8) for column in (0, 9)])
        both = {(2, 9): "#", (4, 9): "#", (6, 9): "#"}
        first = drawing.change(hidden, {**both, (8, 9): ".", (2, 0): "#"})
        second = drawing.change(hidden, {**both, (4, 0): "#", (6, 0): "#"})
        self.assertEqual([normalize(first), normalize(second)], [(0, first), (0, second)])
        expected = drawing.change(first, {(4, 0): "#", (6, 0): "#"})
        self.assertEqual(normalize(expected)[0], 4)
        self.assertEqual(merge([first, second]), expected)
        self.assertEqual(merge([rotate(second), mirror(first)]), expected)

    def test_kinds_of_the_results(self):
        views = [noisy(LABELS[14], seed) for seed in range(3)]
        self.assertIs(type(merge(views)), tuple)
        self.assertEqual({type(row) for row in merge(views)}, {str})
        self.assertIs(type(conflicts(views)), list)
        self.assertEqual({type(cell) for cell in conflicts(views)}, {tuple})


class Conflicts(unittest.TestCase):
    def test_ascending_order(self):
        for image in LABELS.values():
            side = len(image)
            cells = drawing.inner_cells(side)[::-3]
            changed = drawing.flip(image, cells)
            for views in ([image, changed], [changed, rotate(image)], [mirror(changed), image, changed]):
                self.assertEqual(conflicts(views), sorted(cells))

    def test_cells_of_the_normalized_images(self):
        image = LABELS[10]
        changed = drawing.flip(image, [(1, 2), (7, 3)])
        self.assertEqual(conflicts([rotate(image), rotate(changed)]), [(1, 2), (7, 3)])
        self.assertEqual(conflicts([mirror(image), rotate(rotate(changed))]), [(1, 2), (7, 3)])

    def test_conflicts_between_later_views(self):
        image = LABELS[10]
        hidden = drawing.hide(image, [(3, 3)])
        dark = drawing.change(image, {(3, 3): "#"})
        light = drawing.change(image, {(3, 3): "."})
        self.assertEqual(conflicts([hidden, dark, light]), [(3, 3)])
        self.assertEqual(conflicts([dark, hidden, light]), [(3, 3)])
        self.assertEqual(conflicts([dark, dark, hidden]), [])
        self.assertEqual(conflicts([light, hidden, light]), [])


class Errors(unittest.TestCase):
    def check_view(self, views, index):
        for function in (merge, conflicts):
            with self.subTest(function=function.__name__, views=views):
                with self.assertRaises(InvalidView) as caught:
                    function(views)
                self.assertEqual(caught.exception.index, index)

    def test_invalid_count(self):
        for function in (merge, conflicts):
            self.assertRaises(InvalidCount, function, [])
            for value in NOT_LISTS:
                self.assertRaises(InvalidCount, function, value)

    def test_what_is_not_an_image(self):
        for value in NOT_VIEWS:
            self.check_view([value], 0)
            self.check_view([LABELS[10], value], 1)
            self.check_view([LABELS[10], rotate(LABELS[10]), value, LABELS[10]], 2)

    def test_what_cannot_be_normalized(self):
        for side, image in LABELS.items():
            hidden = drawing.hide(image, drawing.frame_cells(side))
            for view in [hidden, ("." * side,) * side]:
                self.check_view([view], 0)
                self.check_view([image, image, view], 2)

    def test_another_side(self):
        for side in LABELS:
            for other in LABELS:
                if other != side:
                    self.check_view([LABELS[side], LABELS[other]], 1)
                    self.check_view([LABELS[side], rotate(LABELS[side]), LABELS[other], LABELS[side]], 2)

    def test_first_view_that_is_invalid(self):
        blank = ("." * 10,) * 10
        small, large = LABELS[10], LABELS[12]
        self.check_view([None, large, blank], 0)
        self.check_view([small, large, None], 1)
        self.check_view([small, blank, large], 1)
        self.check_view([small, small, None, large], 2)
        # The first view gives the side, whatever more of the views have.
        self.check_view([small, large, large, large], 1)
        self.check_view([large, small, small], 1)
        self.check_view([blank, large], 0)


if __name__ == "__main__":
    unittest.main()
