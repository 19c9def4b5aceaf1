"""The layout of labels: sides and strengths, the cells of images, masks and penalties."""

from squaremark.errors import InvalidImage, InvalidSide, InvalidStrength
from squaremark.gf16 import is_number

SIDES = (10, 12, 14, 16)
MASKS = (0, 1, 2, 3)
DARK = "#"
LIGHT = "."
UNKNOWN = "?"

_STRENGTHS = (1, 2, 3)
_BLOCK_COUNTS = {10: 1, 12: 2, 14: 2, 16: 3}
_HEADER_CELLS = 24
# The index of a color is the bit for which it stands.
_COLORS = ".#"
_INVERSES = {"#": ".", ".": "#", "?": "?"}


def data_capacity(side, strength):
    """Return the number of data symbols of a label."""
    if not is_number(side) or side not in SIDES:
        raise InvalidSide("the side must be 10, 12, 14 or 16")
    require_strength(strength)
    body_length = ((side - 2) ** 2 - _HEADER_CELLS) // 4
    return body_length - count_blocks(side) * count_checks(strength)


def penalty(image):
    """Return the penalty of an image."""
    require_image(image)
    rows = sum([_line_penalty(row) for row in image])
    return rows + sum([_line_penalty(column) for column in zip(*image)])


def count_blocks(side):
    """Return the number of blocks of the body."""
    return _BLOCK_COUNTS[side]


def count_checks(strength):
    """Return the number of check symbols of each block of the body."""
    return 2 * strength


def require_strength(strength):
    """Raise InvalidStrength if the argument is not a strength."""
    if not is_number(strength) or strength not in _STRENGTHS:
        raise InvalidStrength("the strength must be 1, 2 or 3")


def require_image(image):
    """Raise InvalidImage if the argument is not an image."""
    if not isinstance(image, tuple) or len(image) not in SIDES:
        raise InvalidImage(0, -1)
    for row, cells in enumerate(image):
        if not isinstance(cells, str) or len(cells) != len(image):
            raise InvalidImage(row, -1)
        for column, cell in enumerate(cells):
            if cell not in (DARK, LIGHT, UNKNOWN):
                raise InvalidImage(row, column)


def draw_image(side, header, body, mask):
    """Return the image of a label with these symbols, its body under a mask."""
    cells = _write_symbols(header + body)
    return _put_frame(_mask_body(cells, side, mask), side)


def frame_image(side):
    """Return an image of the frame alone: all cells inside are unknown."""
    return _put_frame(UNKNOWN * (side - 2) ** 2, side)


def read_header(image):
    """Return the header as a received block; a symbol with an unknown cell is None."""
    return _read_symbols(_inner_cells(image)[:_HEADER_CELLS])


def read_body(image, mask):
    """Return the body without its mask; a symbol with an unknown cell is None."""
    cells = _mask_body(_inner_cells(image), len(image), mask)
    return _read_symbols(cells[_HEADER_CELLS:])


def _line_penalty(line):
    total = 0
    length = 0
    previous = None
    for cell in line:
        length = length + 1 if cell == previous else 1
        # Each cell of a run behind its third one makes the penalty greater by 1.
        if length > 3:
            total += 1
        previous = cell
    return total


def _put_frame(cells, side):
    """Return the image with these cells inside its frame."""
    width = side - 2
    rows = [DARK * side]
    for row in range(1, side - 1):
        start = (row - 1) * width
        rows.append(LIGHT + cells[start:start + width] + _last_cell(row))
    rows.append(LIGHT * (side - 1) + _last_cell(side - 1))
    return tuple(rows)


def _last_cell(row):
    """Return the frame's cell in the last column of a row below row 0."""
    return LIGHT if row & 1 else DARK


def _inner_cells(image):
    return "".join([row[1:-1] for row in image[1:-1]])


def _mask_body(cells, side, mask):
    """Return the cells inside the frame; those of the body that a mask inverts are inverted."""
    masked = []
    for index, cell in enumerate(cells):
        row, column = divmod(index, side - 2)
        in_body = index >= _HEADER_CELLS
        # The numbers of the image count the frame, too.
        inverted = in_body and _inverts(mask, row + 1, column + 1)
        masked.append(_INVERSES[cell] if inverted else cell)
    return "".join(masked)


def _inverts(mask, row, column):
    """Return whether a mask inverts a cell of the body."""
    if mask == 1:
        return (row + column) & 1 == 1
    if mask == 2:
        return (row // 2 + column // 3) & 1 == 1
    if mask == 3:
        return int(row * column) % 3 == 0
    return False


def _write_symbols(symbols):
    return "".join([_COLORS[symbol >> shift & 1] for symbol in symbols for shift in (3, 2, 1, 0)])


def _read_symbols(cells):
    return tuple([_read_symbol(cells[start:start + 4]) for start in range(0, len(cells), 4)])


def _read_symbol(cells):
    if UNKNOWN in cells:
        return None
    symbol = 0
    for cell in cells:
        symbol = 2 * symbol + _COLORS.index(cell)
    return symbol
