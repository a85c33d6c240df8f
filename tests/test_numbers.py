"""Natural numbers as octets and folded integers: points 1, 10 and 12."""

import unittest

from schemabridge.errors import BadOctets
from schemabridge.numbers import fold, read_number, unfold, write_number
from tests.building import FARTHEST

WRITTEN = (
    (0, [0]), (1, [1]), (5, [5]), (127, [127]), (128, [128, 1]), (129, [129, 1]), (255, [255, 1]), (256, [128, 2]),
    (300, [172, 2]), (16383, [255, 127]), (16384, [128, 128, 1]), (16385, [129, 128, 1]),
    (128 ** 3 - 1, [255, 255, 127]), (128 ** 3, [128, 128, 128, 1]), (128 ** 7 - 1, [255] * 6 + [127]),
    (128 ** 7, [128] * 7 + [1]), (128 ** 7 + 5, [133] + [128] * 6 + [1]), (128 ** 8 - 1, [255] * 7 + [127]))


class Writing(unittest.TestCase):
    def test_octets(self):
        for number, octets in WRITTEN:
            found = write_number(number)
            self.assertIs(found.__class__, list)
            self.assertEqual(found, octets, number)

    def test_neighbours_of_powers_have_one_octet_for_each_digit(self):
        for power in range(1, 8):
            self.assertEqual(len(write_number(128 ** power - 1)), power)
            self.assertEqual(len(write_number(128 ** power)), power + 1)
            self.assertEqual(len(write_number(128 ** power + 1)), power + 1)

    def test_all_octets_but_the_last_one_are_128_or_more(self):
        for number in list(range(2000)) + [3 ** power for power in range(34)]:
            octets = write_number(number)
            self.assertTrue(all(128 <= octet <= 255 for octet in octets[:-1]), number)
            self.assertLess(octets[-1], 128)
            self.assertEqual(sum((octet % 128) * 128 ** place for place, octet in enumerate(octets)), number)
            self.assertTrue(octets[-1] > 0 or len(octets) == 1)

    def test_each_list_is_a_new_one(self):
        for number, octets in WRITTEN:
            found = write_number(number)
            found[0] = 77
            found.append(200)
            self.assertEqual(write_number(number), octets)


class Reading(unittest.TestCase):
    def assert_bad(self, octets, start, at, reason):
        before = list(octets)
        for _ in range(2):
            with self.assertRaises(BadOctets) as caught:
                read_number(octets, start)
            self.assertEqual((caught.exception.at, caught.exception.reason), (at, reason), (before, start))
        self.assertEqual(octets, before)

    def test_numbers(self):
        for number, octets in WRITTEN:
            self.assertEqual(read_number(list(octets), 0), (number, len(octets)))

    def test_the_result_is_a_pair_of_integers(self):
        found = read_number([172, 2], 0)
        self.assertIs(found.__class__, tuple)
        self.assertEqual([item.__class__ for item in found], [int, int])

    def test_numbers_within_octets(self):
        for number, octets in WRITTEN:
            self.assertEqual(read_number([0, 200] + octets, 2), (number, 2 + len(octets)))
            self.assertEqual(read_number(octets + [0, 200], 0), (number, len(octets)))
            self.assertEqual(read_number([255] * 9 + octets + [128, 0], 9), (number, 9 + len(octets)))

    def test_the_example(self):
        self.assertEqual(read_number([5, 172, 2, 9], 1), (300, 3))
        self.assertEqual(read_number([5, 172, 2, 9], 0), (5, 1))
        self.assertEqual(read_number([5, 172, 2, 9], 2), (2, 3))
        self.assertEqual(read_number([5, 172, 2, 9], 3), (9, 4))

    def test_what_is_written_is_read(self):
        for number in list(range(3000)) + [3 ** power for power in range(34)]:
            octets = write_number(number)
            self.assertEqual(read_number(octets, 0), (number, len(octets)))

    def test_at_the_end_of_the_octets(self):
        self.assert_bad([], 0, 0, "end")
        self.assert_bad([1], 1, 1, "end")
        self.assert_bad([1, 200, 3], 3, 3, "end")

    def test_octets_that_end_within_a_number(self):
        for many in range(1, 8):
            for octet in (128, 200, 255):
                self.assert_bad([octet] * many, 0, many, "end")
                self.assert_bad([7, 0] + [octet] * many, 2, many + 2, "end")

    def test_eight_octets_without_an_end(self):
        for octet in (128, 200, 255):
            for rest in ([], [0], [1], [5, 5], [255, 1], [128]):
                self.assert_bad([octet] * 8 + rest, 0, 0, "form")
                self.assert_bad([0, 1, 200] + [octet] * 8 + rest, 3, 3, "form")

    def test_the_eighth_octet_is_the_last_one(self):
        self.assertEqual(read_number([128] * 7 + [1, 1], 0), (128 ** 7, 8))
        self.assertEqual(read_number([255] * 7 + [127, 255], 0), (128 ** 8 - 1, 8))

    def test_a_last_octet_0(self):
        for many in range(1, 8):
            for octet in (128, 129, 255):
                self.assert_bad([octet] * many + [0], 0, 0, "form")
                self.assert_bad([octet] * many + [0, 9], 0, 0, "form")
                self.assert_bad([5, 128] + [octet] * many + [0], 2, 2, "form")

    def test_0_alone_is_a_number(self):
        self.assertEqual(read_number([0], 0), (0, 1))
        self.assertEqual(read_number([0, 0], 0), (0, 1))
        self.assertEqual(read_number([128, 0], 1), (0, 2))


class Folding(unittest.TestCase):
    def test_small_integers(self):
        for number, natural in (
                (0, 0), (-1, 1), (1, 2), (-2, 3), (2, 4), (-3, 5), (3, 6), (63, 126), (-64, 127), (64, 128)):
            self.assertEqual(fold(number), natural)
            self.assertEqual(unfold(natural), number)

    def test_large_integers(self):
        for number in (FARTHEST, FARTHEST - 1, 2 ** 60 + 1, 10 ** 40):
            self.assertEqual(fold(number), 2 * number)
            self.assertEqual(fold(-number), 2 * number - 1)
            self.assertEqual(unfold(2 * number), number)
            self.assertEqual(unfold(2 * number - 1), -number)

    def test_each_undoes_the_other_one(self):
        for number in list(range(-300, 300)) + [FARTHEST, -FARTHEST, 2 ** 70, -2 ** 70, 2 ** 70 + 1, -2 ** 70 - 1]:
            self.assertEqual(unfold(fold(number)), number)
            self.assertGreaterEqual(fold(number), 0)
        for natural in list(range(600)) + [2 * FARTHEST, 2 * FARTHEST - 1, 2 ** 71, 2 ** 71 + 1]:
            self.assertEqual(fold(unfold(natural)), natural)


class Interface(unittest.TestCase):
    def test_each_function_is_defined_in_its_module(self):
        for function in (write_number, read_number, fold, unfold):
            self.assertEqual(function.__module__, "schemabridge.numbers")

    def test_parameters_have_the_names_of_the_document(self):
        self.assertEqual(write_number(number=5), [5])
        self.assertEqual(read_number(octets=[5], at=0), (5, 1))
        self.assertEqual(fold(number=-3), 5)
        self.assertEqual(unfold(natural=5), -3)


if __name__ == "__main__":
    unittest.main()
