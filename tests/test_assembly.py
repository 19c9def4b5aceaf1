"""Messages put together from labels: point 14."""

import unittest
from itertools import chain, combinations, permutations

from squaremark.assembly import assemble, inspect_parts, missing_parts
from squaremark.errors import InvalidCount, InvalidSymbols, InvalidView, MismatchedPart, MissingParts
from squaremark.labels import decode_label, render_labels
from tests import drawing
from tests.drawing import SMALL, small_label, small_labels

FUNCTIONS = (assemble, missing_parts, inspect_parts)
# A message of one to four parts for each strength.
TEXTS = {
    1: ["hello", "Meet me at the pier, 7 o'clock sharp.", "3" * 78, "Bring 12 eggs - and 3 loaves. " * 3],
    2: ["7", "ten tins in a tent at noon on site", "12-34" * 13, "1" * 124],
    3: ["", "1 2 3 4 5 6 7 8 9 0 " + "1" * 16, "e" * 73, "0" * 80],
}


def subsets(items):
    return chain.from_iterable(combinations(items, count) for count in range(1, len(items) + 1))


class Assembly(unittest.TestCase):
    def check_index(self, error, views, index, functions=FUNCTIONS):
        for function in functions:
            with self.subTest(function=function.__name__):
                with self.assertRaises(error) as caught:
                    function(views)
                self.assertEqual(caught.exception.index, index)

    def check_missing(self, views, parts):
        with self.assertRaises(MissingParts) as caught:
            assemble(views)
        self.assertEqual(caught.exception.parts, parts)
        self.assertEqual(missing_parts(views), list(parts))


class Messages(Assembly):
    def test_examples(self):
        labels = render_labels("1" * 100, strength=1, spare=True)
        self.assertEqual(assemble([labels[3], labels[0], labels[2]]), "1" * 100)
        self.check_missing(labels[:1], (1, 2))
        self.assertEqual([missing_parts(labels[:2]), missing_parts(labels[1:])], [[2], []])
        self.assertEqual(inspect_parts(labels[2:]), (16, 1, 3, [2, 3]))

    def test_every_set_of_labels(self):
        for strength, texts in TEXTS.items():
            for part_count, text in enumerate(texts, 1):
                labels = render_labels(text, strength=strength, spare=True)
                self.assertEqual(len(labels), part_count + 1)
                for chosen in subsets(range(part_count + 1)):
                    with self.subTest(strength=strength, part_count=part_count, chosen=chosen):
                        self.check_set(labels, chosen, strength, text)

    def check_set(self, labels, chosen, strength, text):
        part_count = len(labels) - 1
        views = [labels[part] for part in chosen]
        missing = tuple(part for part in range(part_count) if part not in chosen)
        self.assertEqual(inspect_parts(views), (len(labels[0]), strength, part_count, list(chosen)))
        if not missing or len(missing) == 1 and part_count in chosen:
            self.assertEqual(assemble(views), text)
            self.assertEqual(missing_parts(views), [])
        else:
            self.check_missing(views, missing)

    def test_any_order(self):
        text = TEXTS[1][2]
        labels = render_labels(text, strength=1, spare=True)
        for order in permutations(range(4)):
            views = [labels[part] for part in order]
            self.assertEqual(assemble(views), text)
            self.assertEqual(assemble(views[:3]), text)
            self.assertEqual(inspect_parts(views), (14, 1, 3, [0, 1, 2, 3]))
            self.assertEqual(inspect_parts(views[:2]), (14, 1, 3, sorted(order[:2])))
            lost = sorted(part for part in order[2:] if part < 3)
            self.assertEqual(missing_parts(views[:2]), [] if 3 in order[:2] and len(lost) == 1 else lost)

    def test_any_orientation(self):
        text = TEXTS[2][3]
        labels = render_labels(text, spare=True)
        for first in range(8):
            views = [drawing.view(label, (first + 3 * part) % 8) for part, label in enumerate(labels)]
            self.assertEqual(assemble(views), text)
            self.assertEqual(assemble(views[1:]), text)
            self.assertEqual(inspect_parts(views[3:]), (16, 2, 4, [3, 4]))
            self.assertEqual(missing_parts(views[3:]), [0, 1, 2])

    def test_duplicates(self):
        text = TEXTS[2][1]
        labels = render_labels(text, spare=True)
        views = [labels[1], drawing.view(labels[1], 5), labels[0], labels[2], labels[0], drawing.view(labels[2], 2)]
        self.assertEqual(assemble(views), text)
        self.assertEqual(inspect_parts(views), (14, 2, 2, [0, 1, 2]))
        self.assertEqual(missing_parts(views), [])
        self.assertEqual(inspect_parts([labels[1]] * 3), (14, 2, 2, [1]))
        self.check_missing([labels[1]] * 3, (0,))
        self.assertEqual(assemble([labels[2], labels[1], labels[2]]), text)

    def test_damaged_duplicates_with_equal_data(self):
        text = TEXTS[3][1]
        labels = render_labels(text, strength=3)
        damaged = drawing.damage(labels[0], [0, 6, 7, 30])
        # Under each mask the images differ in many cells, but the data do not.
        others = [drawing.draw(14, 3, mask, 1, 2, decode_label(labels[1])[3]) for mask in range(4)]
        self.assertEqual(len(set(others)), 4)
        self.assertEqual(assemble([labels[0], damaged, *others]), text)
        self.assertEqual(inspect_parts([*others, damaged]), (14, 3, 2, [0, 1]))

    def test_one_part(self):
        labels = render_labels("12", spare=True)
        self.assertEqual(assemble([labels[0]]), "12")
        self.assertEqual(assemble([labels[1]]), "12")
        self.assertEqual(assemble(labels), "12")
        self.assertEqual(inspect_parts([labels[1]]), (10, 2, 1, [1]))
        self.assertEqual(missing_parts([labels[1]]), [])

    def test_kinds_of_the_results(self):
        labels = render_labels("1" * 100, strength=1, spare=True)
        self.assertIs(type(assemble(labels)), str)
        self.assertIs(type(missing_parts(labels)), list)
        self.assertIs(type(inspect_parts(labels)), tuple)
        self.assertIs(type(inspect_parts(labels)[3]), list)
        with self.assertRaises(MissingParts) as caught:
            assemble(labels[:1])
        self.assertIs(type(caught.exception.parts), tuple)


class InvalidArguments(Assembly):
    def test_invalid_count(self):
        label = small_label(0, 1)
        for function in FUNCTIONS:
            for value in [[], None, True, False, 0, 1, "", "#", (), (label,), label]:
                self.assertRaises(InvalidCount, function, value)

    def test_what_cannot_be_decoded(self):
        label = small_label(0, 1)
        hidden = drawing.hide(label, drawing.frame_cells(10))
        broken_header = drawing.erase(label, range(4))
        broken_body = drawing.erase(label, range(6, 11))
        wrong_header = drawing.paint(10, drawing.encode((12, 0, 1), 3), (0,) * 10, 0)
        for view in [
            None, True, 0, "", (), [], list(label), ("x" * 10,) * 10, label[1:], ("." * 10,) * 10,
            hidden, broken_header, broken_body, wrong_header, drawing.view(broken_body, 3),
        ]:
            self.check_index(InvalidView, [view], 0)
            self.check_index(InvalidView, [label, view], 1)
            self.check_index(InvalidView, [label, label, view, label, view], 2)
            self.check_index(InvalidView, [view, label, None], 0)

    def test_views_come_before_parts(self):
        label = small_label(0, 1)
        other = small_label(0, 2)
        self.check_index(InvalidView, [label, other, None], 2)
        self.check_index(InvalidView, [label, other, ("." * 10,) * 10], 2)
        self.check_index(InvalidView, [label, other, drawing.erase(label, range(4))], 2)
        self.check_index(MismatchedPart, [label, other, label], 1)


class Mismatches(Assembly):
    def test_side(self):
        label = small_label(0, 2)
        for side in (12, 14, 16):
            other = small_label(1, 2, drawing.some_data(side, 2, side), side)
            self.check_index(MismatchedPart, [label, other], 1)
            self.check_index(MismatchedPart, [other, label], 1)
            self.check_index(MismatchedPart, [label, label, other, other], 2)

    def test_strength(self):
        label = small_label(0, 2)
        for strength in (1, 3):
            other = small_label(1, 2, drawing.some_data(10, strength, 5), 10, strength)
            self.check_index(MismatchedPart, [label, other], 1)
            self.check_index(MismatchedPart, [other, label], 1)
            self.check_index(MismatchedPart, [label, label, label, other], 3)

    def test_equally_many_data_symbols(self):
        # The data of a label of side 12 and strength 3 are one more than those of side 10.
        first = drawing.draw(12, 3, 0, 0, 2, (1, 2, 3, 4, 5, 6, 7))
        second = drawing.draw(12, 1, 0, 1, 2, (1,) * 15)
        self.check_index(MismatchedPart, [first, second], 1)

    def test_part_count(self):
        for count in (1, 2, 3, 4):
            for other in (1, 2, 3, 4):
                if other != count:
                    views = [small_label(0, count), small_label(1, other)]
                    self.check_index(MismatchedPart, views, 1)
                    self.check_index(MismatchedPart, [views[0], views[0], views[1], views[1]], 2)

    def test_data(self):
        for part in range(4):
            label = small_label(part, 3)
            other = small_label(part, 3, (1, 2, 15, 0, 0, 1))
            rest = small_label((part + 1) % 4, 3)
            self.check_index(MismatchedPart, [label, other], 1)
            self.check_index(MismatchedPart, [label, rest, label, other, label], 3)
            self.check_index(MismatchedPart, [rest, label, other, other], 2)
            self.assertEqual(inspect_parts([label, label, rest])[3], sorted({part, (part + 1) % 4}))

    def test_equal_data_of_different_parts(self):
        views = [small_label(part, 3) for part in range(3)]
        self.assertEqual(inspect_parts(views), (10, 2, 3, [0, 1, 2]))

    def test_first_mismatch(self):
        label = small_label(0, 2)
        count = small_label(1, 3)
        data = small_label(0, 2, (9,) * 6)
        strength = small_label(1, 2, (1,) * 8, 10, 1)
        side = small_label(1, 2, (1,) * 11, 12)
        for others in permutations([count, data, strength, side]):
            self.check_index(MismatchedPart, [label, *others], 1)
            self.check_index(MismatchedPart, [label, small_label(1, 2), *others], 2)

    def test_the_first_label_decides(self):
        views = [small_label(0, 2), small_label(0, 3), small_label(1, 3), small_label(2, 3)]
        self.check_index(MismatchedPart, views, 1)
        self.check_index(MismatchedPart, views[1:] + views[:1], 3)


class SpareLabels(Assembly):
    def test_inconsistent_spare_label(self):
        for parts in [[SMALL], [SMALL, (3,) * 6], [SMALL, (3,) * 6, (9, 8, 7, 6, 5, 4)], [SMALL] * 4]:
            labels = small_labels(*parts)
            count = len(parts)
            for index in range(6):
                sums = list(drawing.total(parts))
                sums[index] ^= 1 + index
                wrong = small_label(count, count, sums)
                self.check_index(MismatchedPart, labels[:-1] + [wrong], count)
                self.check_index(MismatchedPart, [wrong] + labels[:-1], 0)
                self.check_index(MismatchedPart, labels[:1] + [wrong, wrong] + labels[:-1], 1)
                self.check_index(MismatchedPart, [labels[0], drawing.view(wrong, 6)] + labels[:-1] + [wrong], 1)

    def test_consistent_spare_label(self):
        labels = small_labels((1, 2, 3, 4, 5, 6), (7, 8, 9, 15, 0, 0))
        self.assertEqual(assemble(labels), "123456789")
        self.assertEqual(assemble(labels[::-1]), "123456789")

    def test_only_if_all_parts_are_present(self):
        labels = small_labels((1,) * 6, (2,) * 6, (15, 0, 0, 0, 0, 0))
        wrong = small_label(3, 3, (7,) * 6)
        self.assertEqual(inspect_parts([labels[0], wrong, labels[1]]), (10, 2, 3, [0, 1, 3]))
        self.assertEqual(missing_parts([labels[0], wrong, labels[1]]), [])
        # 1 + 2 + 7 = 4 in each symbol of the part that is recovered.
        self.assertEqual(assemble([labels[0], wrong, labels[1]]), "1" * 6 + "2" * 6 + "4" * 6)
        self.check_missing([wrong, labels[2]], (0, 1))
        self.check_missing([wrong], (0, 1, 2))
        self.check_index(MismatchedPart, [wrong] + labels[:3], 0)

    def test_other_mismatches_come_first(self):
        labels = small_labels((1,) * 6, (2,) * 6)
        wrong = small_label(2, 2, (7,) * 6)
        other = small_label(1, 2, (5,) * 6)
        self.check_index(MismatchedPart, [wrong, labels[0], labels[1], other], 3)
        self.check_index(MismatchedPart, [wrong, labels[0], labels[1], labels[2]], 3)
        self.check_index(MismatchedPart, [wrong, labels[0], labels[1], small_label(0, 3)], 3)
        self.check_index(MismatchedPart, [wrong, labels[0], labels[1]], 0)

    def test_recovered_parts(self):
        for strength, texts in TEXTS.items():
            for part_count, text in enumerate(texts, 1):
                labels = render_labels(text, strength=strength, spare=True)
                for part in range(part_count):
                    views = labels[:part] + labels[part + 1:]
                    self.assertEqual(assemble(views), text)
                    self.assertEqual(assemble(views[::-1] + views[:1]), text)
                    self.assertEqual(missing_parts(views), [])

    def test_without_the_spare_label_nothing_is_recovered(self):
        labels = render_labels("1" * 124)
        for part in range(4):
            self.check_missing(labels[:part] + labels[part + 1:], (part,))

    def test_two_missing_parts(self):
        labels = render_labels("1" * 124, spare=True)
        for first, second in combinations(range(4), 2):
            views = [label for part, label in enumerate(labels) if part not in (first, second)]
            self.check_missing(views, (first, second))
            self.check_missing(views[:-1], (first, second))
            self.check_missing(views[::-1], (first, second))


class Symbols(Assembly):
    def check_symbols(self, views, index):
        self.check_index(InvalidSymbols, views, index, [assemble])
        self.assertEqual(missing_parts(views), [])
        inspect_parts(views)

    def test_index_in_the_joined_data(self):
        self.check_symbols([small_label(0, 1, (13, 9, 9, 0, 0, 0))], 2)
        labels = small_labels((1, 2, 3, 4, 5, 6), (7, 13, 5, 14, 0, 0), (15, 0, 0, 0, 0, 0))
        self.check_symbols(labels, 9)
        self.check_symbols(labels[::-1], 9)
        self.check_symbols(labels[:1] + labels[2:], 9)

    def test_characters_across_parts(self):
        labels = small_labels((1, 2, 3, 4, 5, 13), (5, 13, 12, 0, 15, 13), (13,) * 6)
        self.assertEqual(assemble(labels), "12345~e")
        labels = small_labels((1, 2, 3, 4, 5, 13), (5, 14, 12, 0, 15, 13))
        self.check_symbols(labels, 7)
        labels = small_labels((12, 0, 0, 0, 0, 0), (0, 1, 14, 7, 15, 0))
        self.assertEqual(assemble(labels), "eeeeeet7")

    def test_incomplete_last_character(self):
        self.check_symbols(small_labels((1,) * 6, (1, 1, 1, 1, 1, 13)), 12)
        self.check_symbols(small_labels((1,) * 6, (1, 1, 1, 1, 13, 1)), 12)
        self.assertEqual(assemble(small_labels((1,) * 6, (1,) * 6)), "1" * 12)

    def test_missing_parts_come_first(self):
        labels = small_labels((13, 9, 9, 0, 0, 0), (1,) * 6, (2,) * 6)
        self.check_missing(labels[:2], (2,))
        self.check_missing(labels[:1], (1, 2))
        self.check_missing([labels[0], labels[3]], (1, 2))
        self.check_symbols(labels, 2)

    def test_mismatches_come_before_missing_parts(self):
        self.check_index(MismatchedPart, [small_label(0, 3), small_label(0, 3, (1,) * 6)], 1)
        self.check_index(InvalidView, [small_label(0, 3), small_label(0, 3, (1,) * 6), None], 2)


if __name__ == "__main__":
    unittest.main()
