"""Sheets as bytes: point 21."""

import unittest
from itertools import product

from squaremark.errors import InvalidCount, InvalidEncoding
from squaremark.labels import render_labels
from squaremark.sheet_codec import decode_sheet, encode_sheet, encoded_length, pack_bytes, unpack_bytes
from tests import codes, drawing, pages

LABEL = render_labels("7", strength=1)[0]


def rows_of(*parts):
    """A sheet of rows, each given with the number of times that it stands there."""
    return tuple(row for row, count in parts for _ in range(count))


def folded(cells, columns):
    """The sheet of these cells in rows of so many columns."""
    return tuple(cells[start:start + columns] for start in range(0, len(cells), columns))


SHEETS = [
    # Repeated rows: once, twice, and as often as there can be.
    rows_of(("#........#", 2), (".#......#.", 3), ("?.?.?.?.?.", 1), ("..........", 4)),
    rows_of(("#.#.#.#.#.#", 60)),
    rows_of(("#.#.#.#.#.#", 59), (".#.#.#.#.#.", 1)),
    rows_of((".#.#.#.#.#.", 1), ("#.#.#.#.#.#", 59)),
    rows_of(("#.#.#.#.#.", 1), (".....#####", 2), ("#.#.#.#.#.", 2), (".....#####", 5)),
    rows_of(("#" * 60, 30), ("." * 60, 1), ("?" * 60, 29)),
    # A repeated row beside a run that could go on instead.
    rows_of(("#.........", 1), ("..........", 3), (".........#", 6)),
    rows_of(("#.........", 1), ("..........", 8), (".........#", 1)),
    rows_of(("##########", 2), ("#.........", 1), ("..........", 6), ("?????.....", 1)),
    rows_of(("." * 32, 2), ("#" * 32, 4), ("." * 32, 5), (".#" * 16, 1)),
    rows_of(("." * 33, 2), ("#" * 33, 4), ("." * 33, 5), (".#" * 16 + ".", 1)),
    rows_of(("." * 9 + "#", 1), ("#" * 10, 2), ("#" + "." * 9, 3), ("." * 10, 2), ("#" * 10, 4)),
    # Runs of exactly 63, 64, 65, 127, 128 and 129 cells.
    folded("#" + "." * 64 + "#" * 65 + "?" * 128 + "." * 63 + "#" * 127 + "?" * 129 + "." * 23, 10),
    folded("#" + "." * 64 + "#" * 65 + "?" * 128 + "." * 63 + "#" * 127 + "?" * 129 + "." * 23, 12),
    folded("#" + "." * 64 + "#" * 65 + "?" * 128 + "." * 63 + "#" * 127 + "?" * 129 + "." * 23, 20),
    folded("." * 64 + "#" * 64 + "?" * 64 + "." * 128, 16),
    folded("." * 65 + "#" * 128 + "?" * 127 + "." * 64 + "#" * 256, 32),
    folded("." * 60 + "#" * 4 + "." * 64 + "#" * 65 + "?" * 407, 60),
    pages.compose(12, 14, [(LABEL, 1, 3)]),
    pages.compose(60, 60, [(LABEL, 0, 0), (drawing.view(LABEL, 3), 30, 11), (drawing.noise(16, 3), 44, 44)]),
    *[pages.blank(rows, columns, cell) for rows in (10, 60) for columns in (10, 12, 60) for cell in "#.?"],
    *[pages.blank(rows, columns) for rows, columns in [(11, 59), (59, 11), (16, 16), (16, 32), (32, 16), (13, 64 - 13)]],
]


def long_runs(rows, columns, seed):
    """A sheet of runs that look random, many of them long, with some rows that are like the one before."""
    cells = ""
    for number in drawing.numbers(rows * columns, seed):
        length = number // 3 % (4 if number % 2 else 150)
        cells += ".#?"[number % 3] * (length + 1)
        if number % 7 == 0 and len(cells) > columns:
            cells = cells[:len(cells) // columns * columns]
            cells += cells[-columns:] * (number // 7 % 4)
    return folded(cells[:rows * columns], columns)


class Bytes(unittest.TestCase):
    def test_examples(self):
        self.assertEqual(pack_bytes([1, 65]), b"\x01A")
        self.assertRaises(InvalidCount, pack_bytes, [256])
        self.assertEqual(unpack_bytes(pack_bytes([3, 200])), [3, 200])

    def test_every_value(self):
        self.assertEqual(pack_bytes([]), b"")
        self.assertEqual(unpack_bytes(b""), [])
        for value in range(256):
            self.assertEqual(pack_bytes([value]), value.to_bytes(1, "big"))
            self.assertEqual(unpack_bytes(value.to_bytes(1, "big")), [value])
        self.assertEqual(unpack_bytes(pack_bytes(list(range(256)))), list(range(256)))
        self.assertEqual(pack_bytes([0, 255, 0]), b"\x00\xff\x00")

    def test_other_values(self):
        for value in [-1, -256, 256, 257, 1000, 2 ** 70, True, False, None, "", "1", b"1", (), (1,), [], [1]]:
            for values in ([value], [1, value], [value, 1], [0, 255, value, 7]):
                with self.subTest(values=values):
                    self.assertRaises(InvalidCount, pack_bytes, values)

    def test_what_is_no_list(self):
        for value in [None, True, False, 0, 1, 10, 255, "", "1", (), (1,), (1, 65)]:
            self.assertRaises(InvalidCount, pack_bytes, value)

    def test_kinds_of_the_results(self):
        self.assertIs(type(pack_bytes([1])), bytes)
        self.assertIs(type(unpack_bytes(b"\x01")), list)
        self.assertEqual([type(value) for value in unpack_bytes(b"\x01\xff")], [int, int])

    def test_lists_are_not_kept(self):
        values = [1, 2]
        data = pack_bytes(values)
        values.append(3)
        unpack_bytes(data).append(3)
        self.assertEqual((data, unpack_bytes(data)), (b"\x01\x02", [1, 2]))


class Encoding(unittest.TestCase):
    def check(self, sheet):
        with self.subTest(sheet=sheet):
            expected = codes.encode(sheet)
            self.assertEqual(list(encode_sheet(sheet)), expected)
            self.assertEqual(encoded_length(sheet), len(expected))
            self.assertEqual(decode_sheet(bytes(expected)), sheet)

    def test_examples(self):
        sheet = ("." * 12,) * 10
        self.assertEqual(unpack_bytes(encode_sheet(sheet)), [10, 12, 11, 200, 233])
        self.assertEqual(encoded_length(sheet), 5)

    def test_sheets(self):
        for sheet in SHEETS:
            self.check(sheet)

    def test_against_all_lists(self):
        sheets = [pages.blank(rows, columns, cell) for rows in (10, 11) for columns in (10, 12, 16, 32) for cell in ".?"]
        sheets += [
            folded("." * 40 + "#" * 60, 10), folded("#" * 64 + "." * 64, 16)[:8] + ("." * 16,) * 2,
            rows_of(("." * 10, 5), ("#" * 10, 5)), rows_of(("." * 10, 1), ("#" * 10, 9)),
            rows_of(("." * 9 + "#", 1), ("#" * 10, 9)), rows_of((".....#####", 10)), rows_of(("#" * 60, 10)),
            rows_of(("?" * 33, 2), ("#" * 33, 8)), rows_of(("?" * 20, 1), ("?" * 19 + ".", 9)),
        ]
        for sheet in sheets:
            shortest = codes.all_shortest(sheet)
            self.assertEqual(codes.best_codes(sheet), min(shortest))
            self.check(sheet)

    def test_ties(self):
        # All these lists are equally short: 64 + 56 cells, 12 cells and a repetition, and others.
        self.assertGreater(len(codes.all_shortest(pages.blank(10, 12))), 2)
        # A run is smaller than a repetition: with as few codes, it wins.
        sheet = rows_of(("#.........", 1), ("..........", 1), ("#.........", 8))
        encoding = list(encode_sheet(sheet))
        self.assertEqual(encoding[2:-1], [64, 18, 64, 8, 198])
        # The color decides, not the length: light is less than dark, dark less than unknown.
        self.assertEqual(list(encode_sheet(pages.blank(10, 12, "#")))[2:-1], [75, 200])
        self.assertEqual(list(encode_sheet(pages.blank(10, 12, "?")))[2:-1], [139, 200])

    def test_speckled_sheets(self):
        for seed, (rows, columns) in enumerate([(10, 10), (10, 60), (60, 10), (23, 31), (60, 60)]):
            for kinds in ("#.", "#.?", "....#", "........................?"):
                self.check(pages.speckled(rows, columns, seed, kinds))

    def test_long_runs(self):
        for seed in range(60):
            numbers = drawing.numbers(2, seed)
            self.check(long_runs(10 + numbers[0] % 20, 10 + numbers[1] % 51, seed))

    def test_few_kinds_of_rows(self):
        rows = ["." * 10, "#" * 10, "#.........", ".........#", "#####.....", ".....#####"]
        for seed in range(150):
            self.check(tuple(rows[number % (2 + seed % 5)] for number in drawing.numbers(10 + seed % 13, seed)))

    def test_checksums(self):
        sums = set()
        for seed in range(40):
            data = list(encode_sheet(pages.speckled(11, 12, seed)))
            self.assertEqual(data[-1], sum(data[:-1]) % 251)
            sums.add(data[-1])
        self.assertGreater(len(sums), 15)

    def test_kinds_of_the_results(self):
        self.assertIs(type(encode_sheet(SHEETS[0])), bytes)
        self.assertIs(type(encoded_length(SHEETS[0])), int)
        sheet = decode_sheet(encode_sheet(SHEETS[0]))
        self.assertEqual((type(sheet), {type(row) for row in sheet}), (tuple, {str}))


class Decoding(unittest.TestCase):
    def check(self, values):
        """Compare with the independent decoder."""
        expected = codes.decode(values)
        with self.subTest(values=values):
            if isinstance(expected, tuple):
                self.assertEqual(decode_sheet(bytes(values)), expected)
            else:
                self.check_invalid(values, expected)
        return expected

    def check_invalid(self, values, offset):
        with self.subTest(values=values):
            with self.assertRaises(InvalidEncoding) as caught:
                decode_sheet(bytes(values))
            self.assertEqual(caught.exception.offset, offset)

    def test_examples(self):
        self.assertEqual(decode_sheet(pack_bytes([10, 12, 11, 200, 233]))[9], "............")
        self.check_invalid([10, 12, 200], 2)

    def test_every_encoding(self):
        for sheet in SHEETS:
            self.assertEqual(decode_sheet(encode_sheet(sheet)), sheet)

    def test_longer_encodings(self):
        # An encoding need not be the shortest one.
        for values, sheet in [
            ([10, 10] + [0] * 100, pages.blank(10, 10)), ([10, 10, 63, 35], pages.blank(10, 10)),
            ([10, 10, 9] + [192] * 9, pages.blank(10, 10)), ([10, 10, 4, 4, 200], pages.blank(10, 10)),
            ([10, 10, 9, 9, 199], pages.blank(10, 10)), ([10, 10, 19, 193, 5, 3, 0, 4, 43], pages.blank(10, 10)),
            ([10, 20, 83, 83, 192, 192, 197], pages.blank(10, 20, "#")),
            ([10, 11, 138] + [192, 138] * 4 + [138], pages.blank(10, 11, "?")),
        ]:
            self.assertEqual(self.check(codes.sealed(values)), sheet)

    def test_sizes(self):
        for rows, columns in product([0, 1, 9, 10, 11, 59, 60, 61, 64, 200, 255], repeat=2):
            values = codes.sealed([rows, columns] + [0] * columns + [190 + rows] if rows < 65 else [rows, columns])
            expected = self.check(values)
            if not 10 <= rows <= 60:
                self.assertEqual(expected, 0)
            elif not 10 <= columns <= 60:
                self.assertEqual(expected, 1)
            else:
                self.assertEqual(expected, pages.blank(rows, columns))

    def test_every_code_at_every_place(self):
        for start in [
            [10, 10], [10, 10, 8], [10, 10, 9], [10, 10, 10], [10, 10, 72, 0, 200 - 2], [10, 10, 63, 25],
            [10, 10, 63, 34], [10, 10, 63, 35], [10, 60, 59], [60, 10, 9, 249], [60, 10, 9], [60, 60, 123, 249],
        ]:
            for code in range(256):
                self.check(start + [code])
                self.check(codes.sealed(start + [code]))
                self.check(codes.sealed(start + [code, code]))

    def test_repetitions(self):
        self.check_invalid([10, 10, 192], 2)
        self.check_invalid([10, 10, 255], 2)
        self.check_invalid([10, 10, 5, 192], 3)
        self.check_invalid([10, 10, 10, 192], 3)
        self.check_invalid([10, 10, 9, 201], 3)
        self.check_invalid([10, 10, 9, 192, 200], 4)
        self.check_invalid([10, 10, 9, 4, 192], 4)
        self.assertEqual(self.check(codes.sealed([10, 10, 9, 200])), pages.blank(10, 10))
        # The last row is full: what comes then is the checksum.
        self.check_invalid([10, 10, 9, 200, 192], 4)
        for count in range(1, 65):
            expected = self.check(codes.sealed([60, 10, 68, 4, 191 + count] + [9] * max(59 - count, 0)))
            self.assertEqual(isinstance(expected, tuple), count < 60)

    def test_runs_that_exceed_the_sheet(self):
        for code in (36, 63, 100, 127, 164, 191):
            self.check_invalid([10, 10, 63, code, 0], 3)
            self.assertEqual(self.check([10, 10, 63, code]), 3)
        self.assertEqual(self.check(codes.sealed([10, 10, 63, 99]))[9], "#" * 10)

    def test_checksums(self):
        for sheet in SHEETS[:8]:
            values = list(encode_sheet(sheet))
            for checksum in range(256):
                if checksum == values[-1]:
                    continue
                self.check_invalid(values[:-1] + [checksum], len(values) - 1)
                self.check_invalid(values[:-1] + [checksum, 0], len(values) - 1)

    def test_every_remainder(self):
        # A number with the right remainder that is greater than 250 is no checksum.
        remainders = {}
        for first, second in product(range(64), (0, 64, 128)):
            values = [10, 10, first] + [second] * (99 - first)
            checksum = codes.sealed(values)[-1]
            remainders[checksum] = self.check(codes.sealed(values))
            if checksum < 5:
                self.check_invalid(values + [checksum + 251], len(values))
        self.assertGreater(len(remainders), 100)
        self.assertLess(min(remainders), 5)
        self.assertEqual({type(sheet) for sheet in remainders.values()}, {tuple})

    def test_bytes_behind_the_checksum(self):
        for sheet in SHEETS[:6]:
            values = list(encode_sheet(sheet))
            for behind in ([0], [values[-1]], [255], [192], [0] * 9, values):
                self.check_invalid(values + behind, len(values))
            wrong = values[:-1] + [(values[-1] + 1) % 251]
            self.check_invalid(wrong + [0], len(values) - 1)

    def test_missing_bytes(self):
        self.check_invalid([], 0)
        for sheet in SHEETS[:8]:
            values = list(encode_sheet(sheet))
            for length in range(len(values)):
                self.check_invalid(values[:length], length)
        self.check_invalid([9], 0)
        self.check_invalid([10, 9], 1)

    def test_every_byte_changed(self):
        for sheet in SHEETS[:3] + SHEETS[6:7]:
            values = list(encode_sheet(sheet))
            for offset in range(len(values)):
                for other in range(256):
                    changed = values[:offset] + [other] + values[offset + 1:]
                    self.check(changed)
                    self.check(codes.sealed(changed[:-1]))

    def test_every_byte_taken_out_or_put_in(self):
        for sheet in SHEETS[:5]:
            values = list(encode_sheet(sheet))
            for offset in range(len(values) + 1):
                for more in ([], [0], [9], [63], [64], [127], [128], [191], [192], [200], [255], [10, 10], [values[-1]]):
                    for rest in (values[offset:], values[offset + 1:], values[offset + 2:]):
                        changed = values[:offset] + more + rest
                        self.check(changed)
                        self.check(codes.sealed(changed))
                        self.check(codes.sealed(changed[:-1]))

    def test_bytes_that_look_random(self):
        for seed in range(400):
            numbers = drawing.numbers(1 + seed % 40, seed)
            values = [10 + numbers[0] % 3, 10 + seed % 7] + [number % 256 for number in numbers]
            self.check(values)
            self.check(codes.sealed(values))

    def test_other_kinds(self):
        for value in [None, True, 0, 10, "", "abc", (), (10, 10), [], [10, 12, 11, 200, 233]]:
            with self.assertRaises(InvalidEncoding) as caught:
                decode_sheet(value)
            self.assertEqual(caught.exception.offset, 0)


if __name__ == "__main__":
    unittest.main()
