"""Certificates: point 5."""

import random
import unittest
from itertools import combinations

from squaremark.codewords import check_certificate, decode_block, find_certificate
from squaremark.errors import BlockDecodable, InvalidBlock, InvalidCertificate
from tests import reference

# A received block of six known symbols with two data symbols and one erasure, radius 2.
FAR = (0, 1, 5, 4, None, 9, 3)
FAR_CHECKS = 5


def random_received(source):
    length = source.randrange(1, 17)
    entries = [None] * source.randrange(3) + list(range(16))
    return tuple(source.choice(entries) for _ in range(length)), source.randrange(length)


def far_blocks(count):
    """Received blocks of many forms to which no block is close."""
    source = random.Random(7)
    found = []
    while len(found) < count:
        received, check_count = random_received(source)
        if decode_block(received, check_count) is None:
            found.append((received, check_count))
    return found


class FindCertificate(unittest.TestCase):
    def check_form(self, received, check_count, certificate):
        self.assertIs(type(certificate), list)
        for entry in certificate:
            self.assertIs(type(entry), tuple)
            self.assertEqual(len(entry), len(received) - check_count)
            self.assertEqual(list(entry), sorted(set(entry)))
            self.assertTrue(set(entry) <= set(reference.known_indexes(received)))

    def test_examples(self):
        certificate = find_certificate((1, 2, 3, 4), 3)
        self.assertIs(check_certificate((1, 2, 3, 4), 3, certificate), True)
        self.assertEqual(find_certificate((None, None, 4), 1), [])
        self.assertRaises(BlockDecodable, find_certificate, (5, 5, 6), 2)

    def test_certificates_are_valid(self):
        for received, check_count in far_blocks(250):
            with self.subTest(received=received, check_count=check_count):
                certificate = find_certificate(received, check_count)
                self.check_form(received, check_count, certificate)
                self.assertTrue(reference.is_valid_certificate(received, check_count, certificate))
                self.assertIs(check_certificate(received, check_count, certificate), True)

    def test_every_radius_in_blocks_of_sixteen(self):
        source = random.Random(8)
        for check_count in range(1, 16):
            received = tuple(source.sample(range(16), 16))
            if decode_block(received, check_count) is None:
                certificate = find_certificate(received, check_count)
                self.check_form(received, check_count, certificate)
                self.assertTrue(reference.is_valid_certificate(received, check_count, certificate))

    def test_decodable_exactly_when_decode_block_succeeds(self):
        source = random.Random(9)
        results = set()
        for _ in range(400):
            received, check_count = random_received(source)
            data = decode_block(received, check_count)
            results.add(data is None)
            with self.subTest(received=received, check_count=check_count):
                if data is None:
                    find_certificate(received, check_count)
                else:
                    self.assertRaises(BlockDecodable, find_certificate, received, check_count)
        self.assertEqual(results, {True, False})

    def test_more_erasures_than_check_symbols(self):
        for received, check_count in [((None,), 0), ((None,) * 16, 15), ((1, None), 0), ((None, 2, None, 4), 1)]:
            self.assertEqual(find_certificate(received, check_count), [])

    def test_as_many_erasures_as_check_symbols(self):
        self.assertRaises(BlockDecodable, find_certificate, (None, 2, None, 4), 2)

    def test_radius_zero(self):
        certificate = find_certificate((1, 2), 1)
        self.assertTrue(reference.is_valid_certificate((1, 2), 1, certificate))
        self.assertTrue(certificate)

    def test_invalid_block(self):
        for received, check_count in [
            ((), 0), ((1,) * 17, 3), ([1, 2], 1), ((1, 16), 1), ((1, True), 1), ((1, 2), 2), ((1, 2), -1),
            ((1, 2), True), ((1, 2), None), (None, 1), ("12", 1), ((1, "2"), 1), ((1, (2,)), 1),
        ]:
            with self.subTest(received=received, check_count=check_count):
                self.assertRaises(InvalidBlock, find_certificate, received, check_count)


class CheckCertificate(unittest.TestCase):
    def fail_at(self, index, certificate, received=FAR, check_count=FAR_CHECKS):
        with self.subTest(certificate=certificate):
            with self.assertRaises(InvalidCertificate) as caught:
                check_certificate(received, check_count, certificate)
            self.assertEqual(caught.exception.index, index)

    def test_examples(self):
        self.assertIs(check_certificate((1, 2, 3, 4), 3, [(0,), (1,)]), True)
        self.assertIs(check_certificate((1, 2, 3, 4), 3, [(0,)]), False)
        self.fail_at(1, [(0,), (0, 1)], (1, 2, 3, 4), 3)

    def test_the_far_block_is_far(self):
        self.assertIsNone(reference.close_data(FAR, FAR_CHECKS))

    def test_against_the_reference(self):
        source = random.Random(10)
        answers = []
        for _ in range(300):
            length = source.randrange(2, 9)
            check_count = source.randrange(1, length)
            received = tuple(source.choice([None] + [0, 1, 2, 3] * 3) for _ in range(length))
            known = reference.known_indexes(received)
            entries = list(combinations(known, length - check_count))
            certificate = source.sample(entries, source.randrange(len(entries) + 1))
            expected = reference.is_valid_certificate(received, check_count, certificate)
            answers.append(expected)
            self.assertIs(check_certificate(received, check_count, certificate), expected, (received, certificate))
        self.assertGreater(answers.count(True), 30)
        self.assertGreater(answers.count(False), 30)

    def test_every_entry_removed(self):
        for received, check_count in far_blocks(60):
            certificate = find_certificate(received, check_count)
            for at in range(len(certificate)):
                fewer = certificate[:at] + certificate[at + 1:]
                expected = reference.is_valid_certificate(received, check_count, fewer)
                self.assertIs(check_certificate(received, check_count, fewer), expected)

    def test_entry_removed_that_is_needed(self):
        certificate = [(0, 1), (2, 3), (5, 6)]
        self.assertIs(check_certificate(FAR, FAR_CHECKS, certificate), True)
        for at in range(3):
            fewer = certificate[:at] + certificate[at + 1:]
            self.assertIs(check_certificate(FAR, FAR_CHECKS, fewer), False)

    def test_entry_added(self):
        certificate = find_certificate(FAR, FAR_CHECKS)
        for entry in combinations(reference.known_indexes(FAR), 2):
            for at in range(len(certificate) + 1):
                more = certificate[:at] + [entry] + certificate[at:]
                self.assertIs(check_certificate(FAR, FAR_CHECKS, more), True)

    def test_an_entry_with_a_close_polynomial_spoils_it(self):
        # The entries avoid every index, but that of a close block is among them.
        received = (4, 4, 4, 4, 1)
        self.assertEqual(decode_block(received, 4), (4,))
        self.assertIs(check_certificate(received, 4, [(0,), (1,), (4,)]), False)
        self.assertIs(check_certificate(received, 4, [(4,)]), False)

    def test_as_many_differences_as_the_radius_are_not_enough(self):
        # Radius 1: the polynomials through the entries differ from two known symbols.
        self.assertIs(check_certificate((1, 1, 2, 2), 3, [(0,), (2,)]), True)
        self.assertIs(check_certificate((1, 1, 1, 2), 3, [(0,), (2,)]), False)

    def test_every_entry_again(self):
        certificate = find_certificate(FAR, FAR_CHECKS)
        self.assertIs(check_certificate(FAR, FAR_CHECKS, certificate * 2), True)
        self.assertIs(check_certificate(FAR, FAR_CHECKS, certificate[::-1]), True)

    def test_empty_certificate(self):
        self.assertIs(check_certificate((1, 2, 3, 4), 3, []), False)
        self.assertIs(check_certificate((1, 2), 1, []), False)
        self.assertIs(check_certificate((1, 2), 0, []), False)
        self.assertIs(check_certificate((1, 1), 1, []), False)

    def test_wrong_form(self):
        self.fail_at(0, [(1, 0)])
        self.fail_at(0, [(1, 1)])
        self.fail_at(0, [(0, 4)])
        self.fail_at(0, [(4, 5)])
        self.fail_at(0, [(0, 7)])
        self.fail_at(0, [(-1, 0)])
        self.fail_at(0, [(0, 10 ** 20)])
        self.fail_at(0, [(0,)])
        self.fail_at(0, [()])
        self.fail_at(0, [(0, 1, 2)])
        self.fail_at(0, [[0, 1]])
        for entry in [None, 0, 1, True, "01", "", [], {}]:
            self.fail_at(0, [entry])
        for index in [None, True, False, "1", "", (), (1,), [], [1]]:
            self.fail_at(0, [(0, index)])
            self.fail_at(0, [(index, 5)])

    def test_the_first_wrong_entry_counts(self):
        good = find_certificate(FAR, FAR_CHECKS)
        self.fail_at(len(good), good + [(1, 0)])
        self.fail_at(2, [(0, 1), (2, 3), (5, 5), None, (0, 1)])
        self.fail_at(1, [(0, 1), [2, 3], (0,)])
        self.fail_at(0, [(6, 7), (0, 1)])
        # The form comes before what makes a certificate invalid.
        self.fail_at(1, [(0, 1), (1,)])

    def test_not_a_list(self):
        for certificate in [None, (), ((0, 1),), "", "01", 0, 1, True, False]:
            self.fail_at(0, certificate)

    def test_more_erasures_than_check_symbols(self):
        # There are fewer known symbols than an entry has indexes: only the empty list has the form.
        for received, check_count in [((None, None, 4), 1), ((None,), 0), ((None,) * 16, 15), ((1, None), 0)]:
            self.assertIs(check_certificate(received, check_count, []), True)
            self.fail_at(0, [()], received, check_count)
            self.fail_at(0, [(0,) * (len(received) - check_count)], received, check_count)
            self.fail_at(0, [tuple(range(len(received) - check_count))], received, check_count)
            self.fail_at(0, [(2,)], received, check_count)
            self.fail_at(0, None, received, check_count)

    def test_invalid_block_comes_first(self):
        for received, check_count in [
            ((), 0), ((1,) * 17, 3), ([1, 2], 1), ((1, 16), 1), ((1, False), 1), ((1, 2), 2), ((1, 2), -1),
            ((1, 2), True), ((1, 2), "1"), (None, 1), ("12", 1),
        ]:
            for certificate in [None, [], [None], [(0,)], [(1, 0)]]:
                with self.subTest(received=received, check_count=check_count, certificate=certificate):
                    self.assertRaises(InvalidBlock, check_certificate, received, check_count, certificate)


if __name__ == "__main__":
    unittest.main()
