"""The layout of labels, their capacity, masks and penalty: points 8 to 10."""

import unittest

from squaremark.errors import InvalidSide, InvalidStrength
from squaremark.labels import decode_label, render_labels
from squaremark.layout import data_capacity, penalty
from tests import drawing, reference

NOT_SIDES = [
    0, 1, 2, 8, 9, 11, 13, 15, 17, 18, -10, 100, True, False, None, "", "10", "12", (), (10,), [], [10], 10 ** 30,
]
NOT_STRENGTHS = [0, 4, -1, -2, 10, True, False, None, "", "1", "2", (), (1,), [], [2], 10 ** 30]
CAPACITIES = {
    (10, 1): 8, (10, 2): 6, (10, 3): 4,
    (12, 1): 15, (12, 2): 11, (12, 3): 7,
    (14, 1): 26, (14, 2): 22, (14, 3): 18,
    (16, 1): 37, (16, 2): 31, (16, 3): 25,
}
# A message for each side and strength, each stored in a single label.
TEXTS = {
    (10, 1): "1", (10, 2): "24", (10, 3): "", (12, 1): "123456789", (12, 2): "0987654321", (12, 3): "31415",
    (14, 1): "The quick brown", (14, 2): "1 2 3 4 5 6 7 8 9", (14, 3): "9" * 18,
    (16, 1): "Pack my box, 12 times", (16, 2): "-" * 30, (16, 3): "Zz 12345 - 6789",
}


def line_image(line):
    """An image whose first rows are the line, each one moved on so that no column has a run."""
    return (line,) + tuple(("#." if row % 2 else ".#") * (len(line) // 2) for row in range(len(line) - 1))


class Frame(unittest.TestCase):
    def test_frame_of_each_side(self):
        for (side, strength), text in TEXTS.items():
            image = render_labels(text, strength=strength)[0]
            self.assertIs(type(image), tuple)
            self.assertEqual([len(row) for row in image], [side] * side)
            self.assertEqual(set("".join(image)), {"#", "."})
            for row, column in drawing.frame_cells(side):
                with self.subTest(side=side, row=row, column=column):
                    self.assertEqual(image[row][column], drawing.frame_color(side, row, column))

    def test_frame_as_it_is_written(self):
        image = render_labels("", strength=1)[0]
        self.assertEqual(image[0], "##########")
        self.assertEqual(image[9], "..........")
        self.assertEqual("".join(row[0] for row in image), "#.........")
        self.assertEqual("".join(row[9] for row in image), "#.#.#.#.#.")


class Cells(unittest.TestCase):
    def test_a_label_cell_by_cell(self):
        # The header: strength 2 with mask 0, part 0 of 1.
        header = (4, 0, 1, 5, 15, 11)
        self.assertEqual(drawing.encode((4, 0, 1), 3), header)
        body = (1, 2, 4, 8, 15, 0) + drawing.encode((1, 2, 4, 8, 15, 0), 4)[6:]
        bits = "".join(f"{symbol:04b}" for symbol in header + body)
        inner = bits.replace("0", ".").replace("1", "#")
        rows = ["." + inner[8 * row:8 * row + 8] + ".#"[row % 2] for row in range(8)]
        image = ("##########", *rows, "..........")
        self.assertEqual(inner[:16], ".#.........#.#.#")
        self.assertEqual(decode_label(image), (2, 0, 1, (1, 2, 4, 8, 15, 0)))

    def test_order_of_the_symbols(self):
        for (side, strength), text in TEXTS.items():
            with self.subTest(side=side, strength=strength):
                images = drawing.render(text, strength)
                self.assertEqual(len(images), 1)
                self.assertEqual(render_labels(text, strength=strength), images)

    def test_header_symbols(self):
        for (side, strength), text in TEXTS.items():
            image = render_labels(text, strength=strength)[0]
            header = tuple(drawing.read(image, index) for index in range(6))
            self.assertEqual(header, drawing.encode(header[:3], 3))
            self.assertEqual(header[1:3], (0, 1))
            self.assertIn(header[0] - 4 * (strength - 1), (0, 1, 2, 3))

    def test_header_of_several_parts(self):
        images = render_labels("1" * 100, strength=2, spare=True)
        for part, image in enumerate(images):
            header = tuple(drawing.read(image, index) for index in range(6))
            self.assertEqual(header, drawing.encode((header[0], part, 4), 3))
            self.assertEqual(header[0] // 4, 1)

    def test_body_behind_the_header(self):
        for (side, strength), text in TEXTS.items():
            with self.subTest(side=side, strength=strength):
                image = render_labels(text, strength=strength)[0]
                mask = drawing.read(image, 0) % 4
                body = drawing.body_symbols(side, strength, decode_label(image)[3])
                inner = drawing.inner_cells(side)[24:]
                self.assertEqual(len(inner), 4 * len(body))
                for number, (row, column) in enumerate(inner):
                    bit = body[number // 4] >> (3 - number % 4) & 1
                    dark = bool(bit) != drawing.MASKS[mask](row, column)
                    self.assertEqual(image[row][column], "#" if dark else ".")


class DataCapacity(unittest.TestCase):
    def test_examples(self):
        self.assertEqual(data_capacity(10, 2), 6)
        self.assertRaises(InvalidSide, data_capacity, 11, 4)

    def test_every_label(self):
        for side in drawing.SIDES:
            for strength in drawing.STRENGTHS:
                with self.subTest(side=side, strength=strength):
                    count = len(drawing.data_indexes(side, strength))
                    self.assertEqual(data_capacity(side, strength), count)
                    self.assertEqual(CAPACITIES[side, strength], count)
                    self.assertIs(type(data_capacity(side, strength)), int)

    def test_invalid_side(self):
        for side in NOT_SIDES:
            for strength in [1, 2, 3] + NOT_STRENGTHS:
                with self.subTest(side=side, strength=strength):
                    self.assertRaises(InvalidSide, data_capacity, side, strength)

    def test_invalid_strength(self):
        for side in drawing.SIDES:
            for strength in NOT_STRENGTHS:
                with self.subTest(side=side, strength=strength):
                    self.assertRaises(InvalidStrength, data_capacity, side, strength)


class Blocks(unittest.TestCase):
    def test_indexes(self):
        self.assertEqual(drawing.body_indexes(10), [list(range(10))])
        self.assertEqual(drawing.body_indexes(12), [list(range(0, 19, 2)), list(range(1, 19, 2))])
        self.assertEqual(drawing.body_indexes(14), [list(range(0, 30, 2)), list(range(1, 30, 2))])
        self.assertEqual(drawing.body_indexes(16), [list(range(at, 43, 3)) for at in range(3)])

    def test_every_symbol_of_every_block(self):
        for (side, strength), text in TEXTS.items():
            image = render_labels(text, strength=strength)[0]
            mask = drawing.read(image, 0) % 4
            data = decode_label(image)[3]
            plain = drawing.paint(side, (0,) * 6, (0,) * (((side - 2) ** 2 - 24) // 4), mask)
            body = [
                drawing.read(image, index) ^ drawing.read(plain, index)
                for index in range(6, (side - 2) ** 2 // 4)
            ]
            self.assertEqual(tuple(body[:len(data)]), data)
            blocks = [body[at::drawing.BLOCK_COUNTS[side]] for at in range(drawing.BLOCK_COUNTS[side])]
            for index, block in enumerate(blocks):
                with self.subTest(side=side, strength=strength, block=index):
                    self.assertEqual(tuple(block), drawing.encode(block[:-2 * strength], 2 * strength))

    def test_blocks_are_read_without_any_correction(self):
        # With as many erasures as check symbols, the other symbols alone give the data.
        for side in drawing.SIDES:
            for strength in drawing.STRENGTHS:
                for mask in range(4):
                    with self.subTest(side=side, strength=strength, mask=mask):
                        self.check_reading(side, strength, mask)

    def check_reading(self, side, strength, mask):
        data = drawing.some_data(side, strength, side + strength + mask)
        image = drawing.draw(side, strength, mask, 0, 1, data)
        self.assertEqual(decode_label(image), (strength, 0, 1, data))
        for first in (True, False):
            unknown = []
            for block in drawing.body_indexes(side):
                unknown += block[:2 * strength] if first else block[-2 * strength:]
            hidden = drawing.erase(image, [6 + index for index in unknown])
            self.assertEqual(decode_label(hidden), (strength, 0, 1, data))


class Masks(unittest.TestCase):
    def test_each_mask_on_every_cell(self):
        # All symbols but those that are hidden count: a cell that is not inverted, or
        # inverted by mistake, changes the data.
        for side in drawing.SIDES:
            for mask in range(4):
                image = drawing.draw(side, 1, mask, 0, 1, (0,) * CAPACITIES[side, 1])
                for row, column in drawing.inner_cells(side)[24:]:
                    dark = image[row][column] == "#"
                    self.assertEqual(dark, drawing.MASKS[mask](row, column))
                self.assertEqual(decode_label(image)[3], (0,) * CAPACITIES[side, 1])
                checks = [6 + index for block in drawing.body_indexes(side) for index in block[-2:]]
                hidden = drawing.erase(image, checks)
                for index in range(6, 6 + CAPACITIES[side, 1]):
                    for at, cell in enumerate(drawing.symbol_cells(side, index)):
                        expected = [0] * CAPACITIES[side, 1]
                        expected[index - 6] = 8 >> at
                        label = decode_label(drawing.flip(hidden, [cell]))
                        self.assertEqual(label, (1, 0, 1, tuple(expected)))

    def test_masks_by_the_numbers_of_the_image(self):
        image = drawing.draw(10, 1, 3, 0, 1, (0,) * 8)
        # Row 4 is the first one of the body: 4 * 3, 4 * 6 are divisible by 3. Row 6 is all dark.
        self.assertEqual(image[4], "...#..#..#")
        self.assertEqual(image[6], ".#########")
        image = drawing.draw(10, 1, 1, 0, 1, (0,) * 8)
        self.assertEqual(image[4], ".#.#.#.#.#")
        image = drawing.draw(10, 1, 2, 0, 1, (0,) * 8)
        self.assertEqual(image[4], "...###...#")
        self.assertEqual(image[5], "...###....")
        for mask in range(4):
            self.assertEqual(decode_label(drawing.draw(10, 1, mask, 0, 1, (0,) * 8)), (1, 0, 1, (0,) * 8))

    def test_mask_of_least_penalty(self):
        chosen = {}
        for seed in range(60):
            text = "".join(reference.CHARACTERS[number % 94] for number in drawing.numbers(8, seed + 1))
            for strength in drawing.STRENGTHS:
                for image in render_labels(text, strength=strength, spare=True):
                    _, part, part_count, data = decode_label(image)
                    mask, ties = drawing.best_mask(len(image), strength, part, part_count, data)
                    self.assertEqual(image, drawing.draw(len(image), strength, mask, part, part_count, data))
                    chosen.setdefault((mask, len(ties) > 1), []).append(text)
        # Each mask was chosen, each but the last one also in a tie.
        self.assertEqual(sorted(chosen), [
            (0, False), (0, True), (1, False), (1, True), (2, False), (2, True), (3, False),
        ])

    def test_the_whole_image_counts(self):
        # The best mask of the body alone, or of the cells inside the frame, is another one for some labels.
        others = 0
        for seed in range(40):
            data = drawing.some_data(10, 2, seed + 1)
            text = "".join(str(symbol % 10) for symbol in data)
            image = render_labels(text)[0]
            stored = decode_label(image)[3]
            drawn = [drawing.draw(10, 2, mask, 0, 1, stored) for mask in range(4)]
            inner = [drawing.penalty(tuple(row[1:-1] for row in other[1:-1])) for other in drawn]
            others += image != drawn[inner.index(min(inner))]
            whole = [drawing.penalty(other) for other in drawn]
            self.assertEqual(image, drawn[whole.index(min(whole))])
        self.assertGreater(others, 0)


class Penalty(unittest.TestCase):
    def test_example(self):
        self.assertEqual(penalty(("..........",) * 10), 140)

    def test_whole_rows(self):
        for side in drawing.SIDES:
            for cell in "#.?":
                self.assertEqual(penalty((cell * side,) * side), 2 * side * (side - 3))

    def test_no_runs(self):
        for side in drawing.SIDES:
            image = tuple((("#." if row % 2 else ".#") * side)[:side] for row in range(side))
            self.assertEqual(penalty(image), 0)

    def test_runs_in_a_row(self):
        alternating = "#.#.#.#.#."
        for cell in "#.?":
            for length in range(1, 11):
                for start in range(0, 11 - length):
                    line = alternating[:start] + cell * length + alternating[start + length:]
                    image = line_image(line)
                    with self.subTest(line=line):
                        self.assertEqual(penalty(image), drawing.penalty(image))
                        columns = tuple("".join(column) for column in zip(*image))
                        self.assertEqual(penalty(columns), drawing.penalty(image))

    def test_runs_of_three_and_four(self):
        for side in drawing.SIDES:
            rest = ".#" * side
            self.assertEqual(penalty(line_image(("###" + rest)[:side])), 0)
            self.assertEqual(penalty(line_image(("####" + rest)[:side])), 1)
            self.assertEqual(penalty(line_image(("#####" + rest)[:side])), 2)
            self.assertEqual(penalty(line_image("#" * side)), side - 3)
            self.assertEqual(penalty(line_image(("????" + rest)[:side])), 1)
            self.assertEqual(penalty(line_image(("###?####" + rest)[:side])), 1)
            self.assertEqual(penalty(line_image(("##?##" + rest)[:side])), 0)
            self.assertEqual(penalty(line_image(("####????" + rest)[:side])), 2)
            self.assertEqual(penalty(line_image(("#." * side)[:side - 4] + "####")), 1)

    def test_noise(self):
        for seed in range(40):
            for kinds in ("#.", "#.?", "##..", "#...?", "....?", "????????#"):
                image = drawing.noise(drawing.SIDES[seed % 4], seed, kinds)
                self.assertEqual(penalty(image), drawing.penalty(image))
                self.assertIs(type(penalty(image)), int)

    def test_labels(self):
        for (side, strength), text in TEXTS.items():
            image = render_labels(text, strength=strength)[0]
            self.assertEqual(penalty(image), drawing.penalty(image))


if __name__ == "__main__":
    unittest.main()
