"""Labels for the tests of scanners, and what the scanners tell of them."""

import unittest

from squaremark.errors import InvalidCount, InvalidSymbols, MismatchedPart, MissingParts, UnknownPart
from squaremark.labels import render_labels
from squaremark.scanner import Scanner
from tests import drawing

LABEL = render_labels("7", strength=1)[0]
TEXT = "1" * 100
# Three parts and the spare label, with the side 16.
LABELS = render_labels(TEXT, strength=1, spare=True)


def filled(*views):
    scanner = Scanner()
    for view in views:
        scanner.add_view(view)
    return scanner


def body_of(image):
    """The indexes of the symbols of the body, the header counted, too."""
    return range(6, len(drawing.inner_cells(len(image))) // 4)


def without_body(image):
    """A view that only tells its part: the cells of the body are unknown."""
    return drawing.hide(image, [cell for index in body_of(image) for cell in drawing.symbol_cells(len(image), index)])


def with_header(image, *header):
    """The image with the header of another label."""
    painted = drawing.paint(len(image), drawing.encode(header, 3), (0,) * len(body_of(image)), 0)
    cells = [cell for index in range(6) for cell in drawing.symbol_cells(len(image), index)]
    return drawing.change(image, {(row, column): painted[row][column] for row, column in cells})


def look(scanner):
    """All that a scanner tells."""
    parts = range(max(len(scanner.statuses()), 1))
    views = []
    for part in parts:
        try:
            views.append(scanner.merged_view(part))
        except UnknownPart:
            views.append(None)
    try:
        message = scanner.message()
    except (InvalidCount, InvalidSymbols, MismatchedPart, MissingParts) as error:
        message = (error.__class__, vars(error))
    return scanner.statuses(), scanner.history(), scanner.checkpoints(), scanner.is_busy(), views, message


class ScannerTests(unittest.TestCase):
    def check_unchanged(self, scanner, error, attributes, method, *arguments):
        """A call raises an error and changes nothing."""
        before = look(scanner)
        with self.assertRaises(error) as caught:
            getattr(scanner, method)(*arguments)
        self.assertIs(caught.exception.__class__, error)
        self.assertEqual(vars(caught.exception), attributes)
        self.assertEqual(look(scanner), before)
