"""Labels for the tests, drawn and measured without the package and in other ways than there."""

from itertools import combinations, groupby

from tests import reference

SIDES = (10, 12, 14, 16)
STRENGTHS = (1, 2, 3)
BLOCK_COUNTS = {10: 1, 12: 2, 14: 2, 16: 3}
MASKS = (
    lambda row, column: False,
    lambda row, column: (row + column) % 2 == 1,
    lambda row, column: (row // 2 + column // 3) % 2 == 1,
    lambda row, column: (row * column) % 3 == 0,
)
OTHER = {"#": ".", ".": "#"}


def frame_color(side, row, column):
    """The color of a cell of the frame, or None for a cell inside it."""
    if row == 0:
        return "#"
    if column == side - 1:
        return "#" if row % 2 == 0 else "."
    if column == 0 or row == side - 1:
        return "."
    return None


def frame_cells(side):
    return [
        (row, column) for row in range(side) for column in range(side)
        if frame_color(side, row, column) is not None
    ]


def inner_cells(side):
    """The cells inside the frame in the order in which they are read."""
    return [(row, column) for row in range(1, side - 1) for column in range(1, side - 1)]


def symbol_cells(side, index):
    """The four cells of a symbol; the symbols 0 to 5 are the header."""
    return inner_cells(side)[4 * index:4 * index + 4]


def body_indexes(side):
    """For each block, the indexes of its symbols within the body."""
    count = len(inner_cells(side)) // 4 - 6
    blocks = [[] for _ in range(BLOCK_COUNTS[side])]
    for index in range(count):
        blocks[index % len(blocks)].append(index)
    return blocks


def data_indexes(side, strength):
    """The indexes of the data symbols within the body, in ascending order."""
    return sorted(index for block in body_indexes(side) for index in block[:len(block) - 2 * strength])


def encode(data, check_count):
    points = list(enumerate(data))
    return tuple(data) + tuple(
        reference.interpolate(points, at) for at in range(len(data), len(data) + check_count)
    )


def body_symbols(side, strength, data):
    body = {}
    by_index = dict(zip(data_indexes(side, strength), data))
    for block in body_indexes(side):
        symbols = encode([by_index[index] for index in block if index in by_index], 2 * strength)
        body.update(zip(block, symbols))
    return [body[index] for index in range(len(body))]


def paint(side, header, body, mask):
    """The image with these six and these other symbols."""
    cells = {(row, column): frame_color(side, row, column) for row, column in frame_cells(side)}
    for index, symbol in enumerate(list(header) + list(body)):
        for cell, bit in zip(symbol_cells(side, index), f"{symbol:04b}"):
            inverted = index >= 6 and MASKS[mask](*cell)
            cells[cell] = "#" if (bit == "1") != inverted else "."
    return join_cells(cells, side)


def draw(side, strength, mask, part, part_count, data):
    header = encode((4 * (strength - 1) + mask, part, part_count), 3)
    return paint(side, header, body_symbols(side, strength, data), mask)


def join_cells(cells, side):
    return tuple("".join(cells[row, column] for column in range(side)) for row in range(side))


def split_cells(image):
    return {(row, column): cell for row, line in enumerate(image) for column, cell in enumerate(line)}


def change(image, cells):
    """The image with other cells, given as a dict."""
    return join_cells({**split_cells(image), **cells}, len(image))


def flip(image, cells):
    """The image with the opposite colors of some cells."""
    return change(image, {(row, column): OTHER[image[row][column]] for row, column in cells})


def hide(image, cells):
    return change(image, {cell: "?" for cell in cells})


def damage(image, indexes):
    """The image with a wrong cell in each of some symbols, not always the same one."""
    side = len(image)
    return flip(image, [symbol_cells(side, index)[index % 4] for index in indexes])


def erase(image, indexes):
    """The image with an unknown cell in each of some symbols."""
    side = len(image)
    return hide(image, [symbol_cells(side, index)[(index + 1) % 4] for index in indexes])


def read(image, index):
    """A symbol of an image as it stands there, under its mask."""
    bits = ["01"[image[row][column] == "#"] for row, column in symbol_cells(len(image), index)]
    return int("".join(bits), 2)


def penalty(image):
    lines = list(image) + ["".join(column) for column in zip(*image)]
    lengths = [len(list(run)) for line in lines for _, run in groupby(line)]
    return sum(length - 3 for length in lengths if length > 3)


def best_mask(side, strength, part, part_count, data):
    """The mask of least penalty, and all masks that share this penalty."""
    penalties = [penalty(draw(side, strength, mask, part, part_count, data)) for mask in range(4)]
    ties = [mask for mask in range(4) if penalties[mask] == min(penalties)]
    return ties[0], ties


def best_plan(length, strength):
    """The number of parts and the side for so many symbols, or None."""
    plans = [
        (part_count * side ** 2, part_count, side)
        for part_count in (1, 2, 3, 4) for side in SIDES
        if part_count * len(data_indexes(side, strength)) >= length
    ]
    return sorted(plans)[0][1:] if plans else None


def parts_data(symbols, strength):
    """The number of parts, the side, and the data of each part."""
    part_count, side = best_plan(len(symbols), strength)
    capacity = len(data_indexes(side, strength))
    parts = [[] for _ in range(part_count)]
    queue = list(symbols) + [15]
    for part in parts:
        while len(part) < capacity:
            part.append(queue.pop(0) if queue else 0)
    return part_count, side, [tuple(part) for part in parts]


def total(parts):
    sums = [0] * len(parts[0])
    for part in parts:
        for index, symbol in enumerate(part):
            sums[index] ^= symbol
    return tuple(sums)


def render(text, strength=2, spare=False):
    """The images of the labels of a message."""
    part_count, side, parts = parts_data(reference.best_lists(text)[0], strength)
    if spare:
        parts.append(total(parts))
    return [
        draw(side, strength, best_mask(side, strength, part, part_count, data)[0], part, part_count, data)
        for part, data in enumerate(parts)
    ]


def nearest(received, check_count):
    """The data of the close block, or None, by a search through all sets of known symbols."""
    known = reference.known_indexes(received)
    radius = reference.decoding_radius(received, check_count)
    data_count = len(received) - check_count
    for chosen in combinations(known, data_count):
        points = [(at, received[at]) for at in chosen]
        wrong = 0
        for at in known:
            wrong += at not in chosen and reference.interpolate(points, at) != received[at]
            if wrong > radius:
                break
        else:
            return tuple(reference.interpolate(points, at) for at in range(data_count))
    return None


# Where each orientation puts the cell (row, column) of an image with the last index m.
PLACES = (
    lambda row, column, m: (row, column),
    lambda row, column, m: (column, m - row),
    lambda row, column, m: (m - row, m - column),
    lambda row, column, m: (m - column, row),
    lambda row, column, m: (row, m - column),
    lambda row, column, m: (m - column, m - row),
    lambda row, column, m: (m - row, column),
    lambda row, column, m: (column, row),
)


def view(image, orientation):
    """The view of an image in an orientation."""
    side = len(image)
    cells = {PLACES[orientation](*cell, side - 1): color for cell, color in split_cells(image).items()}
    return join_cells(cells, side)


def count_frame_errors(image):
    side = len(image)
    cells = split_cells(image)
    return sum(cells[cell] not in ("?", frame_color(side, *cell)) for cell in frame_cells(side))


def candidates(image):
    """For each orientation, the image whose view in this orientation is the argument."""
    side = len(image)
    cells = split_cells(image)
    return [
        join_cells({cell: cells[PLACES[orientation](*cell, side - 1)] for cell in cells}, side)
        for orientation in range(8)
    ]


def numbers(count, seed):
    """A fixed row of numbers that look like random ones, each below 2 ** 16."""
    found = []
    state = seed
    for _ in range(count):
        state = (state * 1103515245 + 12345) % 2 ** 31
        found.append(state >> 15)
    return found


def noise(side, seed, kinds="#."):
    """An image of cells that look random."""
    cells = [kinds[number % len(kinds)] for number in numbers(side * side, seed)]
    return tuple("".join(cells[row * side:row * side + side]) for row in range(side))


def some_data(side, strength, seed):
    return tuple(number % 16 for number in numbers(len(data_indexes(side, strength)), seed))


SMALL = (1, 2, 15, 0, 0, 0)


def small_label(part, part_count, data=SMALL, side=10, strength=2):
    """A label with these data; by default, they are the message 12."""
    return draw(side, strength, 1, part, part_count, tuple(data))


def small_labels(*parts):
    """The labels of parts with these data, and the spare label."""
    labels = [small_label(part, len(parts), data) for part, data in enumerate(parts)]
    return labels + [small_label(len(parts), len(parts), total(parts))]
