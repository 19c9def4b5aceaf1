"""Labels read despite damage: point 11."""

import unittest
from itertools import product

from squaremark.errors import DecodeFailed, InvalidImage, InvalidSymbols, PartialMessage
from squaremark.labels import decode_label, decode_message, render_labels
from tests import drawing, reference


def label_of(side, strength, seed=1, mask=None, part=0, part_count=1):
    """The image of a label with data that look random, and these data."""
    data = drawing.some_data(side, strength, seed)
    if mask is None:
        mask = seed % 4
    return drawing.draw(side, strength, mask, part, part_count, data), data


def pick(indexes, count, seed):
    """Some of the indexes that look chosen at random."""
    rest = list(indexes)
    return [rest.pop(number % len(rest)) for number in drawing.numbers(count, seed)]


def block_symbols(side, block):
    """The indexes of the symbols of a block within the whole label."""
    return [6 + index for index in drawing.body_indexes(side)[block]]


def pick_in_each_block(side, count, seed):
    """As many indexes of symbols of each block."""
    chosen = []
    for block in range(drawing.BLOCK_COUNTS[side]):
        chosen += pick(block_symbols(side, block), count, seed + block)
    return chosen


def received_block(image, mask, block):
    """A block of the body as it was received."""
    side = len(image)
    received = []
    for index in block_symbols(side, block):
        cells = drawing.symbol_cells(side, index)
        bits = [(image[row][column] == "#") != drawing.MASKS[mask](row, column) for row, column in cells]
        unknown = any(image[row][column] == "?" for row, column in cells)
        received.append(None if unknown else sum(bit << 3 - at for at, bit in enumerate(bits)))
    return tuple(received)


class Reading(unittest.TestCase):
    def check_failed(self, image, block):
        for function in (decode_label, decode_message):
            with self.assertRaises(DecodeFailed) as caught:
                function(image)
            self.assertEqual(caught.exception.block, block)


class Labels(Reading):
    def test_examples(self):
        images = render_labels("123456")
        self.assertEqual(decode_label(images[0]), (2, 0, 1, (1, 2, 3, 4, 5, 6)))
        self.check_failed(("??????????",) * 10, -1)

    def test_every_kind_of_label(self):
        seed = 0
        for side in drawing.SIDES:
            for strength in drawing.STRENGTHS:
                for mask in range(4):
                    for part_count in range(1, 5):
                        for part in range(part_count + 1):
                            seed += 1
                            image, data = label_of(side, strength, seed, mask, part, part_count)
                            self.assertEqual(decode_label(image), (strength, part, part_count, data))

    def test_kinds_of_the_result(self):
        label = decode_label(label_of(12, 3)[0])
        self.assertEqual([type(item) for item in label], [int, int, int, tuple])
        self.assertIs(type(label), tuple)
        self.assertEqual({type(symbol) for symbol in label[3]}, {int})

    def test_original_orientation_only(self):
        image, _ = label_of(12, 2)
        for orientation in range(1, 8):
            self.assertRaises(DecodeFailed, decode_label, drawing.view(image, orientation))

    def test_empty_and_full_images(self):
        for side in drawing.SIDES:
            # All symbols of the header 0: the number of parts is invalid. All 15: the first symbol, too.
            self.check_failed(("." * side,) * side, -1)
            self.check_failed(("#" * side,) * side, -1)
            self.check_failed(("?" * side,) * side, -1)


class Frame(Reading):
    def test_a_changed_frame_is_ignored(self):
        for side in drawing.SIDES:
            image, data = label_of(side, 2)
            cells = drawing.frame_cells(side)
            for changed in [drawing.flip(image, cells), drawing.hide(image, cells), drawing.flip(image, cells[::2])]:
                self.assertEqual(decode_label(changed), (2, 0, 1, data))
            for cell in "#.?":
                changed = drawing.change(image, {place: cell for place in cells})
                self.assertEqual(decode_label(changed), (2, 0, 1, data))

    def test_damage_and_a_changed_frame(self):
        image, data = label_of(10, 2)
        changed = drawing.flip(drawing.damage(image, [0, 8, 11]), drawing.frame_cells(10))
        self.assertEqual(decode_label(changed), (2, 0, 1, data))


class Header(Reading):
    def test_every_header(self):
        # A body of zeros is valid for every strength.
        for level, part, part_count in product(range(16), repeat=3):
            with self.subTest(level=level, part=part, part_count=part_count):
                header = drawing.encode((level, part, part_count), 3)
                image = drawing.paint(10, header, (0,) * 10, level % 4)
                if level < 12 and 1 <= part_count <= 4 and part <= part_count:
                    strength = level // 4 + 1
                    expected = (strength, part, part_count, (0,) * (10 - 2 * strength))
                    self.assertEqual(decode_label(image), expected)
                else:
                    self.check_failed(image, -1)

    def test_each_way_of_being_invalid(self):
        body = (0,) * 10
        for header in [(12, 0, 1), (15, 0, 1), (4, 0, 0), (4, 0, 5), (4, 2, 1), (4, 5, 4), (4, 15, 15), (0, 0, 0)]:
            self.check_failed(drawing.paint(10, drawing.encode(header, 3), body, 0), -1)
        for header in [(11, 0, 1), (0, 0, 1), (4, 1, 1), (4, 4, 4), (4, 0, 4)]:
            decode_label(drawing.paint(10, drawing.encode(header, 3), body, header[0] % 4))

    def test_one_wrong_symbol(self):
        for side in drawing.SIDES:
            image, data = label_of(side, 2)
            for index in range(6):
                for error in range(1, 16):
                    cells = [cell for at, cell in enumerate(drawing.symbol_cells(side, index)) if error >> at & 1]
                    self.assertEqual(decode_label(drawing.flip(image, cells)), (2, 0, 1, data))

    def test_errors_and_erasures(self):
        image, data = label_of(12, 1, 3)
        header = drawing.encode((3, 0, 1), 3)
        body = drawing.body_symbols(12, 1, data)
        failed = 0
        for seed in range(150):
            wrong = pick(range(6), 1 + seed % 3, seed)
            unknown = pick(range(6), seed // 3 % 5, seed + 1000)
            received = list(header)
            for index in wrong:
                received[index] ^= 1 + (index + seed) % 15
            drawn = drawing.paint(12, received, body, 3)
            drawn = drawing.erase(drawn, unknown)
            found = reference.close_data(
                tuple(None if index in unknown else symbol for index, symbol in enumerate(received)), 3,
            )
            with self.subTest(wrong=wrong, unknown=unknown):
                if found == (3, 0, 1):
                    self.assertEqual(decode_label(drawn), (1, 0, 1, data))
                elif found is None:
                    failed += 1
                    self.check_failed(drawn, -1)
        self.assertGreater(failed, 30)

    def test_erasures_alone(self):
        image, data = label_of(14, 3)
        for first in range(6):
            unknown = [(first + at) % 6 for at in range(6)]
            for count in range(4):
                self.assertEqual(decode_label(drawing.erase(image, unknown[:count])), (3, 0, 1, data))
            for count in range(4, 7):
                self.check_failed(drawing.erase(image, unknown[:count]), -1)

    def test_one_error_beside_erasures(self):
        image, data = label_of(10, 1)
        for wrong in range(6):
            unknown = [index for index in range(6) if index != wrong]
            changed = drawing.damage(image, [wrong])
            self.assertEqual(decode_label(changed), (1, 0, 1, data))
            self.assertEqual(decode_label(drawing.erase(changed, unknown[:1])), (1, 0, 1, data))
            self.check_failed(drawing.erase(changed, unknown[:2]), -1)

    def test_the_header_comes_first(self):
        image, _ = label_of(16, 1)
        hidden = drawing.erase(image, [0, 1, 2, 3] + block_symbols(16, 0))
        self.check_failed(hidden, -1)
        self.check_failed(drawing.erase(image, block_symbols(16, 0)), 0)

    def test_no_error_in_the_body_from_the_mask_of_a_damaged_header(self):
        for mask in range(4):
            image, data = label_of(10, 3, 5, mask)
            self.assertEqual(decode_label(drawing.damage(image, [0])), (3, 0, 1, data))


class Body(Reading):
    def test_as_many_errors_as_can_be_corrected(self):
        for side in drawing.SIDES:
            for strength in drawing.STRENGTHS:
                for seed in range(8):
                    image, data = label_of(side, strength, seed)
                    wrong = pick_in_each_block(side, strength - seed // 4, seed)
                    damaged = drawing.damage(image, wrong)
                    self.assertEqual(decode_label(damaged), (strength, 0, 1, data))

    def test_several_wrong_cells_of_one_symbol(self):
        for side in drawing.SIDES:
            image, data = label_of(side, 1)
            for block in range(drawing.BLOCK_COUNTS[side]):
                for index in block_symbols(side, block):
                    cells = drawing.symbol_cells(side, index)
                    self.assertEqual(decode_label(drawing.flip(image, cells)), (1, 0, 1, data))
                    self.assertEqual(decode_label(drawing.flip(image, cells[1:3])), (1, 0, 1, data))
                    self.assertEqual(decode_label(drawing.hide(image, cells)), (1, 0, 1, data))

    def test_an_unknown_cell_hides_the_others(self):
        for side in drawing.SIDES:
            image, data = label_of(side, 1)
            for block in range(drawing.BLOCK_COUNTS[side]):
                indexes = block_symbols(side, block)
                for first, second in zip(indexes, indexes[1:]):
                    changed = drawing.damage(image, [first, second])
                    hidden = drawing.erase(changed, [first, second])
                    self.assertEqual(decode_label(hidden), (1, 0, 1, data))

    def test_as_many_erasures_as_can_be_corrected(self):
        for side in drawing.SIDES:
            for strength in drawing.STRENGTHS:
                for seed in range(6):
                    image, data = label_of(side, strength, seed)
                    unknown = pick_in_each_block(side, 2 * strength, seed)
                    self.assertEqual(decode_label(drawing.erase(image, unknown)), (strength, 0, 1, data))

    def test_errors_and_erasures(self):
        for side in drawing.SIDES:
            for strength in drawing.STRENGTHS:
                for errors in range(strength + 1):
                    image, data = label_of(side, strength, errors)
                    wrong = []
                    unknown = []
                    for block in range(drawing.BLOCK_COUNTS[side]):
                        chosen = pick(block_symbols(side, block), 2 * strength - errors, errors + block)
                        wrong += chosen[:errors]
                        unknown += chosen[errors:]
                    changed = drawing.erase(drawing.damage(image, wrong), unknown)
                    self.assertEqual(decode_label(changed), (strength, 0, 1, data))

    def test_one_erasure_too_many(self):
        for side in drawing.SIDES:
            for strength in drawing.STRENGTHS:
                image, _ = label_of(side, strength)
                for block in range(drawing.BLOCK_COUNTS[side]):
                    unknown = pick(block_symbols(side, block), 2 * strength + 1, block)
                    self.check_failed(drawing.erase(image, unknown), block)
                    self.check_failed(drawing.erase(image, block_symbols(side, block)), block)

    def test_one_error_too_many(self):
        for side in drawing.SIDES:
            for strength in drawing.STRENGTHS:
                for block in range(drawing.BLOCK_COUNTS[side]):
                    self.check_beyond(side, strength, block)

    def check_beyond(self, side, strength, block):
        # A wrong block may be close by chance: look on until there is none.
        found = ()
        seed = 0
        while found is not None:
            image, data = label_of(side, strength, seed)
            damaged = drawing.damage(image, pick(block_symbols(side, block), strength + 1, seed + 7))
            found = drawing.nearest(received_block(damaged, seed % 4, block), 2 * strength)
            if found is None:
                self.check_failed(damaged, block)
            else:
                wrong = list(data)
                wrong[block::drawing.BLOCK_COUNTS[side]] = found
                self.assertEqual(decode_label(damaged), (strength, 0, 1, tuple(wrong)))
            seed += 1

    def test_an_error_beside_erasures_too_many(self):
        for side in drawing.SIDES:
            for strength in drawing.STRENGTHS:
                for block in range(drawing.BLOCK_COUNTS[side]):
                    image, _ = label_of(side, strength, block)
                    wrong, *unknown = pick(block_symbols(side, block), 2 * strength, block)
                    changed = drawing.erase(drawing.damage(image, [wrong]), unknown)
                    received = received_block(changed, block % 4, block)
                    # One known check symbol is left: no error can be corrected, but each one is seen.
                    self.assertEqual(received.count(None), 2 * strength - 1)
                    self.check_failed(changed, block)

    def test_first_block_that_cannot_be_decoded(self):
        for side in (12, 14, 16):
            image, _ = label_of(side, 2)
            blocks = drawing.BLOCK_COUNTS[side]
            for chosen in range(1, 1 << blocks):
                failing = [block for block in range(blocks) if chosen >> block & 1]
                unknown = [index for block in failing for index in block_symbols(side, block)[-5:]]
                self.check_failed(drawing.erase(image, unknown), failing[0])

    def test_blocks_do_not_share_their_damage(self):
        image, data = label_of(16, 2)
        for block in range(3):
            unknown = []
            for other in range(3):
                unknown += block_symbols(16, other)[:5 if other == block else 4]
            self.check_failed(drawing.erase(image, unknown), block)
            unknown.remove(block_symbols(16, block)[0])
            self.assertEqual(decode_label(drawing.erase(image, unknown)), (2, 0, 1, data))


class Messages(Reading):
    def check_symbols(self, image, index):
        with self.assertRaises(InvalidSymbols) as caught:
            decode_message(image)
        self.assertEqual(caught.exception.index, index)

    def test_examples(self):
        images = render_labels("hello", strength=3)
        self.assertEqual(decode_message(images[0]), "hello")
        images = render_labels("7", spare=True)
        self.assertRaises(PartialMessage, decode_message, images[1])

    def test_every_length(self):
        for strength in drawing.STRENGTHS:
            for length in range(len(drawing.data_indexes(16, strength)) + 1):
                text = "".join(str(number % 10) for number in drawing.numbers(length, length + 1))
                images = render_labels(text, strength=strength)
                self.assertEqual(len(images), 1)
                self.assertEqual(decode_message(images[0]), text)

    def test_messages(self):
        for text in ["", " ", "7", "e", "hello", "A 1", "~~~~", "Pack 5 jugs.", "it's -3, or 4.", "\\'\"$&"]:
            self.assertEqual(decode_message(render_labels(text, strength=1)[0]), text)

    def test_damaged_label(self):
        for strength in drawing.STRENGTHS:
            image = render_labels("hello", strength=strength)[0]
            side = len(image)
            wrong = [0] + [index for block in range(drawing.BLOCK_COUNTS[side])
                           for index in block_symbols(side, block)[:strength]]
            self.assertEqual(decode_message(drawing.damage(image, wrong)), "hello")

    def test_part_of_several(self):
        for strength in drawing.STRENGTHS:
            for image in render_labels("1" * 90, strength=strength, spare=True):
                self.assertRaises(PartialMessage, decode_message, image)
        for part_count in (2, 3, 4):
            for part in range(part_count + 1):
                image = drawing.draw(10, 2, 0, part, part_count, (15, 0, 0, 0, 0, 0))
                self.assertRaises(PartialMessage, decode_message, image)

    def test_spare_label(self):
        for data in [(15, 0, 0, 0, 0, 0), (1, 2, 3, 4, 5, 6)]:
            self.assertRaises(PartialMessage, decode_message, drawing.draw(10, 2, 0, 1, 1, data))
            decode_message(drawing.draw(10, 2, 0, 0, 1, data))

    def test_invalid_symbols(self):
        self.check_symbols(drawing.draw(10, 2, 0, 0, 1, (13, 5, 14, 15, 0, 0)), 2)
        self.check_symbols(drawing.draw(10, 2, 0, 0, 1, (1, 13, 6, 0, 15, 0)), 3)
        self.check_symbols(drawing.draw(10, 2, 0, 0, 1, (1, 1, 1, 1, 1, 13)), 6)
        self.check_symbols(drawing.draw(10, 2, 0, 0, 1, (1, 1, 1, 1, 13, 5)), 6)
        self.check_symbols(drawing.draw(16, 3, 2, 0, 1, (12,) + (0,) * 23 + (13,)), 25)
        self.assertEqual(decode_message(drawing.draw(10, 2, 0, 0, 1, (1, 15, 13, 9, 9, 13))), "1")

    def test_order_of_the_errors(self):
        bad = (13, 15, 15, 13, 15, 15)
        self.assertRaises(PartialMessage, decode_message, drawing.draw(10, 2, 0, 0, 2, bad))
        self.assertRaises(PartialMessage, decode_message, drawing.draw(10, 2, 0, 1, 1, bad))
        self.check_symbols(drawing.draw(10, 2, 0, 0, 1, bad), 2)
        hidden = drawing.erase(drawing.draw(10, 2, 0, 0, 2, bad), range(6, 11))
        self.check_failed(hidden, 0)
        self.check_failed(drawing.erase(hidden, range(4)), -1)
        hidden = drawing.change(hidden, {(9, 9): "x"})
        self.assertRaises(InvalidImage, decode_message, hidden)


if __name__ == "__main__":
    unittest.main()
