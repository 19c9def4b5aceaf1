"""Encodings of sheets for the tests, searched and read without the package."""

COLORS = {".": 0, "#": 1, "?": 2}


def pieces(sheet, at):
    """Each code that may stand at a cell, with the number of cells for which it stands."""
    cells = "".join(sheet)
    columns = len(sheet[0])
    for length in range(1, 65):
        if len(set(cells[at:at + length])) == 1 and at + length <= len(cells):
            yield 64 * COLORS[cells[at]] + length - 1, length
    if at and at % columns == 0:
        row = at // columns
        for count in range(1, 65):
            if row + count <= len(sheet) and set(sheet[row - 1:row + count]) == {sheet[row - 1]}:
                yield 191 + count, count * columns


def best_codes(sheet):
    """The first of the shortest lists of codes, worked out from the front: the best one up to each cell."""
    total = len(sheet) * len(sheet[0])
    best = {0: (0, [])}
    for at in range(total):
        if at in best:
            count, codes = best[at]
            for code, length in pieces(sheet, at):
                longer = (count + 1, codes + [code])
                best[at + length] = min(longer, best.get(at + length, longer))
    return best[total][1]


def all_shortest(sheet):
    """All shortest lists of codes, by making all lists of one code, of two codes and so on."""
    total = len(sheet) * len(sheet[0])
    lists = [(0, [])]
    while True:
        found = [codes for at, codes in lists if at == total]
        if found:
            return found
        lists = [
            (at + length, codes + [code]) for at, codes in lists if at < total for code, length in pieces(sheet, at)
        ]


def sealed(values):
    """The values with their checksum."""
    return values + [sum(values) % 251]


def encode(sheet):
    return sealed([len(sheet), len(sheet[0])] + best_codes(sheet))


def decode(values):
    """The sheet of an encoding, or the offset of the first invalid value."""
    for offset in (0, 1):
        if offset == len(values) or not 10 <= values[offset] <= 60:
            return offset
    rows = [[]]
    for offset, code in enumerate(values[2:], 2):
        if len(rows) == values[0] and len(rows[-1]) == values[1]:
            if code != sum(values[:offset]) % 251:
                return offset
            return tuple("".join(row) for row in rows) if offset == len(values) - 1 else offset + 1
        for cell in cells_of(code, rows, values[1]):
            if len(rows[-1]) == values[1]:
                rows.append([])
            if cell is None or len(rows) > values[0]:
                return offset
            rows[-1].append(cell)
    return len(values)


def cells_of(code, rows, columns):
    """The cells that a code adds; None is one that it cannot add."""
    if code < 192:
        return ".#?"[code // 64] * (code % 64 + 1)
    if len(rows[-1]) == columns:
        return rows[-1] * (code - 191)
    return [None]
