"""Sheets: labels placed on a larger area, and found there again."""

from squaremark.assembly import assemble
from squaremark.errors import DecodeFailed, InvalidCount, InvalidImage, InvalidPlacement, InvalidSheet
from squaremark.gf16 import is_number
from squaremark.labels import decode_label
from squaremark.layout import DARK, LIGHT, SIDES, UNKNOWN, frame_image, require_image
from squaremark.orientation import normalize, orientations

_LEAST_SIZE = 10
_MOST_SIZE = 60


def compose(rows, columns, items):
    """Return a sheet of light cells on which images are placed."""
    if not is_size(rows) or not is_size(columns):
        raise InvalidCount("a sheet has 10 to 60 rows and columns")
    if not isinstance(items, list):
        raise InvalidPlacement(0)
    for index, item in enumerate(items):
        if not _is_placement(item) or not can_place(rows, columns, items[:index], item):
            raise InvalidPlacement(index)
    return _draw_sheet(rows, columns, items)


def locate(sheet):
    """Return the row, the column, the side and the orientation of all intact frames."""
    require_sheet(sheet)
    frames = _frame_orientations()
    found = []
    for row in range(len(sheet)):
        for column in range(len(sheet[0])):
            for side in SIDES:
                orientation = _frame_at(sheet, row, column, side, frames)
                if orientation is not None:
                    found.append((row, column, side, orientation))
    return found


def crop(sheet, row, column, side):
    """Return a square area of a sheet."""
    require_sheet(sheet)
    if not is_number(side) or side not in SIDES:
        raise InvalidPlacement(0)
    if not is_number(row) or not is_number(column):
        raise InvalidPlacement(0)
    if not _lies_within(len(sheet), len(sheet[0]), row, column, side):
        raise InvalidPlacement(0)
    return _cut(sheet, row, column, side)


def scan(sheet):
    """Return what `locate` returns, each tuple with the label that can be read there, or None."""
    return [
        (row, column, side, orientation, _read_label(_cut(sheet, row, column, side)))
        for row, column, side, orientation in locate(sheet)
    ]


def scan_message(sheet):
    """Return the message of the labels on a sheet."""
    return assemble([
        _cut(sheet, row, column, side) for row, column, side, _, label in scan(sheet) if label is not None
    ])


def is_size(value):
    """Return whether a value is a number of rows or columns that a sheet can have."""
    return is_number(value) and _LEAST_SIZE <= value <= _MOST_SIZE


def require_sheet(sheet):
    """Raise InvalidSheet if the argument is not a sheet."""
    if not isinstance(sheet, tuple) or not is_size(len(sheet)):
        raise InvalidSheet(0, -1)
    for row, cells in enumerate(sheet):
        if not isinstance(cells, str) or not is_size(len(cells)) or len(cells) != len(sheet[0]):
            raise InvalidSheet(row, -1)
        for column, cell in enumerate(cells):
            if cell not in (DARK, LIGHT, UNKNOWN):
                raise InvalidSheet(row, column)


def can_place(rows, columns, earlier, item):
    """Return whether an image lies within a sheet, and neither overlaps nor touches earlier ones."""
    image, row, column = item
    if not _lies_within(rows, columns, row, column, len(image)):
        return False
    return not any(_meet(item, other) for other in earlier)


def _is_placement(item):
    """Return whether an item is a tuple of an image and two numbers."""
    if not isinstance(item, tuple) or len(item) != 3:
        return False
    image, row, column = item
    try:
        require_image(image)
    except InvalidImage:
        return False
    return is_number(row) and is_number(column)


def _lies_within(rows, columns, row, column, side):
    return 0 <= row <= rows - side and 0 <= column <= columns - side


def _meet(item, other):
    """Return whether two images overlap or touch."""
    image, row, column = item
    other_image, other_row, other_column = other
    by_rows = _reach(row, len(image), other_row, len(other_image))
    return by_rows and _reach(column, len(image), other_column, len(other_image))


def _reach(start, length, other_start, other_length):
    """Return whether two stretches of rows or columns overlap or adjoin."""
    return start <= other_start + other_length and other_start <= start + length


def _draw_sheet(rows, columns, items):
    sheet = [LIGHT * columns] * rows
    for image, row, column in items:
        for at, cells in enumerate(image, start=row):
            line = sheet[at]
            sheet[at] = line[:column] + cells + line[column + len(cells):]
    return tuple(sheet)


def _frame_orientations():
    """Return a dict of the orientation of each view of each frame, the cells inside unknown."""
    found = {}
    for side in SIDES:
        for orientation, view in enumerate(orientations(frame_image(side))):
            found[view] = orientation
    return found


def _frame_at(sheet, row, column, side, frames):
    """Return the orientation of the frame of an area, or None if there is no intact frame."""
    if not _lies_within(len(sheet), len(sheet[0]), row, column, side):
        return None
    return frames.get(_hide_inside(_cut(sheet, row, column, side)))


def _hide_inside(area):
    hidden = UNKNOWN * (len(area) - 2)
    rows = [row[0] + hidden + row[-1] for row in area[1:-1]]
    return (area[0], *rows, area[-1])


def _cut(sheet, row, column, side):
    return tuple([cells[column:column + side] for cells in sheet[row:row + side]])


def _read_label(area):
    """Return the label in an area with an intact frame, or None if it cannot be decoded."""
    _, image = normalize(area)
    try:
        return decode_label(image)
    except DecodeFailed:
        return None
