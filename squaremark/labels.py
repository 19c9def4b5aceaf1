"""Labels that store a message: planned, rendered and read."""

from squaremark.codewords import decode_block, encode_block
from squaremark.encoding import END, decode_symbols, encode_text
from squaremark.errors import DecodeFailed, MessageTooLong, PartialMessage
from squaremark.gf16 import add
from squaremark.layout import MASKS, SIDES, count_blocks, count_checks, data_capacity, draw_image
from squaremark.layout import penalty, read_body, read_header, require_image, require_strength

_PART_COUNTS = (1, 2, 3, 4)
_HEADER_CHECKS = 3


def plan_labels(text, *, strength=2):
    """Return the number of parts and the side of the labels of a message."""
    symbols = encode_text(text)
    require_strength(strength)
    return _choose_plan(len(symbols), strength)


def render_labels(text, *, strength=2, spare=False):
    """Return the list of the images of all parts, and of the spare label if it is asked for."""
    symbols = encode_text(text)
    require_strength(strength)
    part_count, side = _choose_plan(len(symbols), strength)
    parts = _fill_parts(symbols, part_count, data_capacity(side, strength))
    if spare:
        parts.append(sum_data(parts))
    return [_render(side, strength, part, part_count, data) for part, data in enumerate(parts)]


def decode_label(image):
    """Return the strength, the part number, the number of parts and the data symbols."""
    require_image(image)
    mask, strength, part, part_count = decode_header(image)
    data = _decode_body(read_body(image, mask), len(image), strength)
    return strength, part, part_count, data


def decode_message(image):
    """Return the message of a label that holds a whole message."""
    _, part, part_count, data = decode_label(image)
    if part_count > 1 or part == part_count:
        raise PartialMessage("the label does not hold a whole message")
    return decode_symbols(data)


def decode_header(image):
    """Return the mask, the strength, the part number and the number of parts that the header tells."""
    data = decode_block(read_header(image), _HEADER_CHECKS)
    if data is None:
        raise DecodeFailed(-1)
    first, part, part_count = data
    if first >= 12 or part_count not in _PART_COUNTS or part > part_count:
        raise DecodeFailed(-1)
    return first & 3, first // 4 + 1, part, part_count


def sum_data(parts):
    """Return the sums, index by index, of the data symbols of several labels."""
    sums = parts[0]
    for data in parts[1:]:
        sums = tuple([add(left, right) for left, right in zip(sums, data)])
    return sums


def _choose_plan(length, strength):
    """Return the plan for so many symbols."""
    plans = []
    for part_count in _PART_COUNTS:
        for side in SIDES:
            if part_count * data_capacity(side, strength) >= length:
                plans.append((part_count * side * side, part_count, side))
    if not plans:
        raise MessageTooLong("no plan has enough capacity")
    _, part_count, side = min(plans)
    return part_count, side


def _fill_parts(symbols, part_count, capacity):
    """Return the list of the data symbols of each part, as tuples."""
    total = part_count * capacity
    filled = symbols + [END] + [0] * total
    return [tuple(filled[start:start + capacity]) for start in range(0, total, capacity)]


def _render(side, strength, part, part_count, data):
    """Return the image of a label, with the mask of least penalty."""
    body = _encode_body(data, side, strength)
    images = []
    for mask in MASKS:
        header = encode_block((4 * (strength - 1) + mask, part, part_count), _HEADER_CHECKS)
        images.append(draw_image(side, header, body, mask))
    # If several images tie, `min` returns the first one: the one with the lowest mask.
    return min(images, key=penalty)


def _encode_body(data, side, strength):
    blocks = [encode_block(block, count_checks(strength)) for block in _split_blocks(data, side)]
    return _join_blocks(blocks)


def _decode_body(body, side, strength):
    blocks = []
    for index, received in enumerate(_split_blocks(body, side)):
        block = decode_block(received, count_checks(strength))
        if block is None:
            raise DecodeFailed(index)
        blocks.append(block)
    return _join_blocks(blocks)


def _split_blocks(symbols, side):
    """Return the blocks to which the symbols are assigned in turn.

    All blocks have equally many check symbols, so that the data symbols come first in
    the body: they, too, are assigned to the blocks in turn.
    """
    count = count_blocks(side)
    return [symbols[index::count] for index in range(count)]


def _join_blocks(blocks):
    """Return the symbols that were assigned to blocks in turn."""
    total = sum([len(block) for block in blocks])
    count = len(blocks)
    return tuple([blocks[int(index) % count][index // count] for index in range(total)])
