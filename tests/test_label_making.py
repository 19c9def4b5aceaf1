"""Labels planned and rendered: point 11."""

import inspect
import unittest

from squaremark.encoding import encode_text
from squaremark.errors import InvalidMessage, InvalidStrength, MessageTooLong
from squaremark.labels import decode_label, plan_labels, render_labels
from tests import drawing, reference

NOT_STRENGTHS = [0, 4, -1, 5, 100, True, False, None, "", "1", "2", (), (2,), [], [1], 10 ** 30]
NOT_MESSAGES = [None, True, False, 0, 5, (), ("a",), [], ["a", "b"], "%", "a%", "\n", "a" * 201, "\u20ac"]
# A message of as many symbols is a row of digits.
LONGEST = {1: 148, 2: 124, 3: 100}


def data_of(images):
    return [decode_label(image)[3] for image in images]


class Plans(unittest.TestCase):
    def test_examples(self):
        self.assertEqual(plan_labels("1234567"), (1, 12))
        self.assertEqual(plan_labels("1234567", strength=1), (1, 10))

    def test_every_number_of_symbols(self):
        for strength in drawing.STRENGTHS:
            for length in range(201):
                with self.subTest(strength=strength, length=length):
                    plan = drawing.best_plan(length, strength)
                    if plan is None:
                        self.assertGreater(length, LONGEST[strength])
                        self.assertRaises(MessageTooLong, plan_labels, "7" * length, strength=strength)
                    else:
                        self.assertLessEqual(length, LONGEST[strength])
                        self.assertEqual(plan_labels("7" * length, strength=strength), plan)

    def test_known_plans(self):
        self.assertEqual(plan_labels(""), (1, 10))
        self.assertEqual(plan_labels("1" * 6), (1, 10))
        self.assertEqual(plan_labels("1" * 8, strength=1), (1, 10))
        # 2 labels of side 14 have 392 cells, 3 of side 12 have 432.
        self.assertEqual(plan_labels("1" * 45, strength=1), (2, 14))
        self.assertEqual(plan_labels("1" * 74, strength=1), (2, 16))
        # 3 labels of side 14 have 588 cells, 3 of side 16 have 768, 4 of side 14 have 784.
        self.assertEqual(plan_labels("1" * 78, strength=1), (3, 14))
        self.assertEqual(plan_labels("1" * 104, strength=1), (3, 16))
        self.assertEqual(plan_labels("1" * 148, strength=1), (4, 16))
        self.assertEqual(plan_labels("1" * 100, strength=3), (4, 16))

    def test_symbols_count_and_not_characters(self):
        for text in ["e" * 7, "e" * 8, "hello", "A1B2", "~" * 12, "e7" * 20, "The quick brown fox", "c" * 60]:
            for strength in drawing.STRENGTHS:
                length = len(reference.best_lists(text)[0])
                plan = drawing.best_plan(length, strength)
                if plan is None:
                    self.assertRaises(MessageTooLong, plan_labels, text, strength=strength)
                else:
                    self.assertEqual(plan_labels(text, strength=strength), plan)

    def test_strength_is_2_by_default(self):
        for length in (0, 6, 7, 8, 50, 124):
            self.assertEqual(plan_labels("1" * length), plan_labels("1" * length, strength=2))
            self.assertEqual(render_labels("1" * length), render_labels("1" * length, strength=2))

    def test_kind_of_the_result(self):
        self.assertIs(type(plan_labels("1")), tuple)
        self.assertEqual([type(number) for number in plan_labels("1")], [int, int])


class Errors(unittest.TestCase):
    def check(self, error, text, **keywords):
        for function in (plan_labels, render_labels):
            with self.subTest(function=function.__name__, text=text, **keywords):
                self.assertRaises(error, function, text, **keywords)
        for spare in (False, True):
            self.assertRaises(error, render_labels, text, spare=spare, **keywords)

    def test_message_too_long(self):
        for strength, length in LONGEST.items():
            self.check(MessageTooLong, "1" * (length + 1), strength=strength)
            self.check(MessageTooLong, "1" * 200, strength=strength)
            self.check(MessageTooLong, "e" * length, strength=strength)
            self.assertEqual(plan_labels("1" * length, strength=strength), (4, 16))
            self.assertEqual(plan_labels("e" * (length - 1), strength=strength), (4, 16))
        self.check(MessageTooLong, "~" * 42)
        self.check(MessageTooLong, "1" * 125)

    def test_invalid_message(self):
        for text in NOT_MESSAGES:
            self.check(InvalidMessage, text)

    def test_index_of_an_invalid_message(self):
        for text, index in [("ab%", 2), ("a" * 250, 200), (None, 0)]:
            for function in (plan_labels, render_labels):
                with self.assertRaises(InvalidMessage) as caught:
                    function(text)
                self.assertEqual(caught.exception.index, index)

    def test_invalid_strength(self):
        for strength in NOT_STRENGTHS:
            self.check(InvalidStrength, "", strength=strength)
            self.check(InvalidStrength, "hello", strength=strength)

    def test_message_before_strength(self):
        for text in NOT_MESSAGES:
            for strength in NOT_STRENGTHS:
                self.check(InvalidMessage, text, strength=strength)

    def test_strength_before_length(self):
        for strength in NOT_STRENGTHS:
            self.check(InvalidStrength, "~" * 200, strength=strength)

    def test_keywords_alone(self):
        self.assertRaises(TypeError, plan_labels, "1", 2)
        self.assertRaises(TypeError, render_labels, "1", 2)
        self.assertRaises(TypeError, render_labels, "1", 2, True)
        self.assertEqual(str(inspect.signature(plan_labels)), "(text, *, strength=2)")
        self.assertEqual(str(inspect.signature(render_labels)), "(text, *, strength=2, spare=False)")
        self.assertEqual(render_labels(spare=True, strength=3, text="1"), render_labels("1", strength=3, spare=True))


class Parts(unittest.TestCase):
    def test_end_symbol_and_zeros(self):
        self.assertEqual(data_of(render_labels("")), [(15, 0, 0, 0, 0, 0)])
        self.assertEqual(data_of(render_labels("12")), [(1, 2, 15, 0, 0, 0)])
        self.assertEqual(data_of(render_labels("12345")), [(1, 2, 3, 4, 5, 15)])
        self.assertEqual(data_of(render_labels("e")), [(12, 0, 15, 0, 0, 0)])

    def test_full_parts_have_no_end_symbol(self):
        self.assertEqual(data_of(render_labels("123456")), [(1, 2, 3, 4, 5, 6)])
        self.assertEqual(data_of(render_labels("12345678", strength=1)), [(1, 2, 3, 4, 5, 6, 7, 8)])
        for strength, length in LONGEST.items():
            text = ("1234567890" * 15)[:length]
            digits = [int(digit) for digit in text]
            size = length // 4
            expected = [tuple(digits[at:at + size]) for at in range(0, length, size)]
            self.assertEqual(data_of(render_labels(text, strength=strength)), expected)

    def test_end_symbol_in_the_last_part(self):
        images = render_labels("1" * 50, strength=1)
        self.assertEqual(data_of(images), [(1,) * 26, (1,) * 24 + (15, 0)])
        images = render_labels("1" * 51, strength=1)
        self.assertEqual(data_of(images), [(1,) * 26, (1,) * 25 + (15,)])
        images = render_labels("1" * 52, strength=1)
        self.assertEqual(data_of(images), [(1,) * 26, (1,) * 26])

    def test_every_length(self):
        for strength in drawing.STRENGTHS:
            for length in range(LONGEST[strength] + 1):
                text = "".join(str(number % 10) for number in drawing.numbers(length, length + 1))
                part_count, side, parts = drawing.parts_data(encode_text(text), strength)
                images = render_labels(text, strength=strength)
                self.assertEqual(len(images), part_count)
                for part, image in enumerate(images):
                    self.assertEqual(len(image), side)
                    self.assertEqual(decode_label(image), (strength, part, part_count, parts[part]))

    def test_one_to_four_parts(self):
        counts = {}
        for text in ["7", "1" * 27, "1" * 45, "1" * 40, "1" * 100, "1" * 148, "Pack my box with five dozen jugs."]:
            images = render_labels(text, strength=1, spare=True)
            self.assertEqual(images, drawing.render(text, 1, True))
            counts[len(images) - 1] = True
            self.assertEqual(render_labels(text, strength=1), images[:-1])
        self.assertEqual(sorted(counts), [1, 2, 3, 4])

    def test_against_labels_drawn_in_another_way(self):
        for text in ["", "7", "hello", "~!A", "The quick brown fox", "Room 12, floor 3 - bring 2 keys.", "0" * 100]:
            for strength in drawing.STRENGTHS:
                for spare in (False, True):
                    images = render_labels(text, strength=strength, spare=spare)
                    self.assertEqual(images, drawing.render(text, strength, spare))

    def test_kind_of_the_result(self):
        images = render_labels("1" * 100, spare=True)
        self.assertIs(type(images), list)
        for image in images:
            self.assertIs(type(image), tuple)
            self.assertEqual({type(row) for row in image}, {str})


class SpareLabels(unittest.TestCase):
    def test_example(self):
        images = render_labels("123456", spare=True)
        self.assertEqual((len(images), images[0][0], images[0][9]), (2, "##########", ".........."))

    def test_one_part(self):
        images = render_labels("12", spare=True)
        self.assertEqual(len(images), 2)
        self.assertEqual(decode_label(images[0]), (2, 0, 1, (1, 2, 15, 0, 0, 0)))
        self.assertEqual(decode_label(images[1]), (2, 1, 1, (1, 2, 15, 0, 0, 0)))

    def test_several_parts(self):
        for strength in drawing.STRENGTHS:
            for length in (27, 30, 36, 45, 60, 75, 90, 100):
                text = "".join(str(number % 10) for number in drawing.numbers(length, length + 1))
                images = render_labels(text, strength=strength, spare=True)
                part_count, side = plan_labels(text, strength=strength)
                self.assertEqual(len(images), part_count + 1)
                self.assertEqual({len(image) for image in images}, {side})
                sums = drawing.total(data_of(images[:-1]))
                self.assertEqual(decode_label(images[-1]), (strength, part_count, part_count, sums))

    def test_sums_index_by_index(self):
        images = render_labels("1" * 26 + "2" * 26 + "7" * 24, strength=1, spare=True)
        self.assertEqual(decode_label(images[3]), (1, 3, 3, (4,) * 24 + (12, 3)))

    def test_no_spare_label_by_default(self):
        for text in ("1", "1" * 100):
            self.assertEqual(render_labels(text), render_labels(text, spare=False))
            self.assertEqual(render_labels(text), render_labels(text, spare=True)[:-1])


if __name__ == "__main__":
    unittest.main()
