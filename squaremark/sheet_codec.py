"""Sheets as bytes, and bytes as lists of integers."""

from squaremark.errors import InvalidCount, InvalidEncoding
from squaremark.gf16 import is_number
from squaremark.sheets import is_size, require_sheet

# The index of a color is the number by which codes name it.
_COLORS = ".#?"
_LONGEST_RUN = 64
# The code that would repeat a row no times: codes above it are repetitions.
_NO_REPEAT = 191
_MODULUS = 251


def pack_bytes(values):
    """Return the bytes with the values of a list of integers from 0 to 255."""
    if not isinstance(values, list) or not all(_is_byte(value) for value in values):
        raise InvalidCount("the values must be a list of integers from 0 to 255")
    return bytes(values)


def unpack_bytes(data):
    """Return the list of the values of bytes."""
    return list(data)


def encode_sheet(sheet):
    """Return the shortest encoding of a sheet."""
    require_sheet(sheet)
    values = [len(sheet), len(sheet[0])] + _shortest_codes("".join(sheet), len(sheet[0]))
    return bytes(values + [sum(values) % _MODULUS])


def encoded_length(sheet):
    """Return the length of the shortest encoding of a sheet."""
    return len(encode_sheet(sheet))


def decode_sheet(data):
    """Return the sheet of an encoding."""
    if not isinstance(data, bytes):
        raise InvalidEncoding(0)
    rows = _read_size(data, 0)
    columns = _read_size(data, 1)
    cells, end = _read_cells(data, rows, columns)
    if _read_byte(data, end) != sum(data[:end]) % _MODULUS:
        raise InvalidEncoding(end)
    if len(data) > end + 1:
        raise InvalidEncoding(end + 1)
    return tuple([cells[start:start + columns] for start in range(0, len(cells), columns)])


def _is_byte(value):
    return is_number(value) and 0 <= value <= 255


def _shortest_codes(cells, columns):
    """Return the first one of the shortest lists of codes for the cells of a sheet."""
    counts = _count_codes(cells, columns)
    codes = []
    at = 0
    while at < len(cells):
        # Any code of a shortest list is less by one code than what is left before it.
        code, at = min([way for way in _list_ways(cells, columns, at) if counts[way[1]] == counts[at] - 1])
        codes.append(code)
    return codes


def _count_codes(cells, columns):
    """Return, for each position, the least number of codes for the cells from there on."""
    counts = [0] * (len(cells) + 1)
    for at in reversed(range(len(cells))):
        counts[at] = 1 + min([counts[after] for _, after in _list_ways(cells, columns, at)])
    return counts


def _list_ways(cells, columns, at):
    """Return the codes that may stand at a position, each with the position behind its cells."""
    first = _LONGEST_RUN * _COLORS.index(cells[at])
    runs = [(first + length - 1, at + length) for length in range(1, _run_length(cells, at) + 1)]
    most = _count_repeats(cells, columns, at)
    return runs + [(_NO_REPEAT + count, at + count * columns) for count in range(1, most + 1)]


def _run_length(cells, at):
    """Return the length of the longest run that can begin at a position."""
    length = 1
    while length < _LONGEST_RUN and cells[at + length:at + length + 1] == cells[at]:
        length += 1
    return length


def _count_repeats(cells, columns, at):
    """Return how many rows from a position on are equal to the row before; 0 if no row begins there."""
    if at == 0 or int(at) % columns != 0:
        return 0
    previous = cells[at - columns:at]
    count = 0
    while cells[at + count * columns:at + (count + 1) * columns] == previous:
        count += 1
    return count


def _read_byte(data, offset):
    if offset >= len(data):
        raise InvalidEncoding(len(data))
    return data[offset]


def _read_size(data, offset):
    size = _read_byte(data, offset)
    if not is_size(size):
        raise InvalidEncoding(offset)
    return size


def _read_cells(data, rows, columns):
    """Return the cells of a sheet as one string, and the offset of the checksum."""
    cells = ""
    offset = 2
    while len(cells) < rows * columns:
        more = _read_code(_read_byte(data, offset), cells, columns)
        if not more or len(cells) + len(more) > rows * columns:
            raise InvalidEncoding(offset)
        cells += more
        offset += 1
    return cells, offset


def _read_code(code, cells, columns):
    """Return the cells of a code behind these cells, or the empty string if it is not valid there."""
    if code <= _NO_REPEAT:
        color, length = divmod(code, _LONGEST_RUN)
        return _COLORS[color] * (length + 1)
    if len(cells) % columns != 0:
        return ""
    # In the first row there are no cells before: their repetition is empty, too.
    return cells[-columns:] * (code - _NO_REPEAT)
