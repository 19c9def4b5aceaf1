"""Sheets for the tests, put together and searched without the package, cell by cell."""

from tests import drawing


def blank(rows, columns, cell="."):
    return (cell * columns,) * rows


def change(sheet, cells):
    """The sheet with other cells, given as a dict."""
    return tuple(
        "".join(cells.get((row, column), cell) for column, cell in enumerate(line))
        for row, line in enumerate(sheet)
    )


def put(sheet, image, row, column):
    """The sheet with an image at a cell."""
    return change(sheet, {
        (row + at, column + to): cell for (at, to), cell in drawing.split_cells(image).items()
    })


def compose(rows, columns, items):
    sheet = blank(rows, columns)
    for image, row, column in items:
        sheet = put(sheet, image, row, column)
    return sheet


def cut(sheet, row, column, side):
    return tuple(
        "".join(sheet[at][to] for to in range(column, column + side)) for at in range(row, row + side)
    )


def frame_views(side):
    """For each orientation, the cells of the frame with their colors."""
    return [
        {place(*cell, side - 1): drawing.frame_color(side, *cell) for cell in drawing.frame_cells(side)}
        for place in drawing.PLACES
    ]


VIEWS = {side: frame_views(side) for side in drawing.SIDES}


def find_frames(sheet):
    """All areas with an intact frame: every position, side and orientation is tried."""
    return [
        (row, column, side, orientation)
        for row in range(len(sheet)) for column in range(len(sheet[0])) for side in drawing.SIDES
        if row + side <= len(sheet) and column + side <= len(sheet[0])
        for orientation, view in enumerate(VIEWS[side])
        if all(sheet[row + at][column + to] == color for (at, to), color in view.items())
    ]


def cells_of(item):
    image, row, column = item
    return {(row + at, column + to) for at in range(len(image)) for to in range(len(image))}


def is_allowed(rows, columns, earlier, item):
    """Whether an image may be placed beside earlier ones, by looking at each of its cells."""
    cells = cells_of(item)
    if not all(0 <= row < rows and 0 <= column < columns for row, column in cells):
        return False
    around = {(row + by, column + to) for row, column in cells for by in (-1, 0, 1) for to in (-1, 0, 1)}
    return not any(around & cells_of(other) for other in earlier)


def speckled(rows, columns, seed, kinds="#."):
    """A sheet of cells that look random."""
    cells = [kinds[number % len(kinds)] for number in drawing.numbers(rows * columns, seed)]
    return tuple("".join(cells[row * columns:row * columns + columns]) for row in range(rows))
