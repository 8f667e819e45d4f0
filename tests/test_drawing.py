import unittest
from unittest import mock

import reference
from latticesign.drawing import (
    drawn_matrix, first_ones, matrix_polynomial, numbers_below_q, small_numbers, small_polynomial, small_polynomials)
from latticesign.polynomials import Q
from latticesign.refusals import ChanceTooShort

TAKEN_THREE = [7, 1, 0]
PASSED_THREE = [255, 255, 127]


def three(number):
    return [number % 256, number // 256 % 256, number // 65536]


def answering(stream):
    """A SHAKE whose answers are the beginnings of this one stream."""
    return mock.Mock(side_effect=lambda data, count: stream[:count])


class Matrix(unittest.TestCase):
    def test_lowest_byte_first(self):
        self.assertEqual(numbers_below_q([1, 2, 3, 4, 5, 6]), [1 + 2 * 256 + 3 * 65536, 4 + 5 * 256 + 6 * 65536])

    def test_round_q(self):
        stream = three(Q - 1) + three(Q) + three(0) + three(Q + 1) + three(2 ** 23 - 1) + three(1)
        self.assertEqual(numbers_below_q(stream), [Q - 1, 0, 1])

    def test_highest_bit_does_not_count(self):
        self.assertEqual(numbers_below_q([5, 0, 128, 255, 255, 255, 0, 0, 255]), [5, 127 * 65536])

    def test_polynomials(self):
        for label in ("rho", "another"):
            rho = reference.chance(label, 32)
            for r, s in ((0, 0), (0, 1), (1, 0), (7, 6), (5, 4)):
                self.assertEqual(matrix_polynomial(rho, r, s), reference.matrix_entry(rho, r, s))

    def test_rows_and_columns(self):
        rho = [0] * 32
        wanted = [[reference.matrix_entry(rho, r, s) for s in range(2)] for r in range(3)]
        self.assertEqual(drawn_matrix(rho, 3, 2), wanted)

    def drawn_from(self, stream):
        self.assertEqual(len(stream), 4032)
        with mock.patch("latticesign.drawing.shake128", answering(stream)):
            return matrix_polynomial([0] * 32, 0, 0)

    def test_all_of_the_bytes_are_used(self):
        stream = PASSED_THREE * (1344 - 256) + TAKEN_THREE * 256
        self.assertEqual(self.drawn_from(stream), [263] * 256)

    def test_some_here_and_some_there(self):
        stream = PASSED_THREE * 100 + TAKEN_THREE * 200 + PASSED_THREE * 900 + three(9) * 144
        self.assertEqual(self.drawn_from(stream), [263] * 200 + [9] * 56)

    def test_one_too_few(self):
        with self.assertRaises(ChanceTooShort):
            self.drawn_from(PASSED_THREE * (1344 - 255) + TAKEN_THREE * 255)

    def test_none(self):
        with self.assertRaises(ChanceTooShort):
            self.drawn_from([255] * 4032)

    def test_no_byte_beyond_is_asked_for(self):
        shake = answering([255] * 10000)
        with mock.patch("latticesign.drawing.shake128", shake):
            self.assertRaises(ChanceTooShort, matrix_polynomial, [0] * 32, 0, 0)
        self.assertEqual(max(call.args[1] for call in shake.call_args_list), 4032)


class SmallOnes(unittest.TestCase):
    def test_eta_2_half_by_half(self):
        stream = [0x10, 0x32, 0x54, 0x76, 0x98, 0xBA, 0xDC, 0xFE]
        self.assertEqual(small_numbers(stream, 2), [2, 1, 0, -1, -2] * 3)

    def test_eta_4_half_by_half(self):
        stream = [0x10, 0x32, 0x54, 0x76, 0x98, 0xBA, 0xDC, 0xFE]
        self.assertEqual(small_numbers(stream, 4), [4, 3, 2, 1, 0, -1, -2, -3, -4])

    def test_lower_half_first(self):
        self.assertEqual(small_numbers([0x40, 0x04, 0xF1, 0x1F], 2), [2, -2, -2, 2, 1, 1])
        self.assertEqual(small_numbers([0x80, 0x08, 0x91, 0x19], 4), [4, -4, -4, 4, 3, 3])

    def test_polynomials(self):
        for label in ("seed", "another"):
            seed = reference.chance(label, 64)
            for eta in (2, 4):
                for j in (0, 1, 14, 255, 256, 258, 65535):
                    self.assertEqual(small_polynomial(seed, j, eta), reference.small(seed, j, eta))

    def test_numbers_follow(self):
        seed = [255] * 64
        self.assertEqual(small_polynomials(seed, 5, 3, 4), [reference.small(seed, j, 4) for j in (5, 6, 7)])

    def drawn_from(self, stream, eta):
        self.assertEqual(len(stream), 1088)
        with mock.patch("latticesign.drawing.shake256", answering(stream)):
            return small_polynomial([0] * 64, 0, eta)

    def test_all_of_the_bytes_are_used(self):
        for eta in (2, 4):
            self.assertEqual(self.drawn_from([255] * (1088 - 128) + [0x11] * 128, eta), [eta - 1] * 256)

    def test_some_here_and_some_there(self):
        for eta in (2, 4):
            stream = [0x1F] * 200 + [255] * 800 + [0xF0] * 88
            self.assertEqual(self.drawn_from(stream, eta), [eta - 1] * 200 + [eta] * 56)

    def test_one_too_few(self):
        for eta in (2, 4):
            with self.assertRaises(ChanceTooShort):
                self.drawn_from([255] * (1088 - 128) + [0x11] * 127 + [0xF1], eta)

    def test_none(self):
        with self.assertRaises(ChanceTooShort):
            self.drawn_from([0xFF] * 1088, 2)
        with self.assertRaises(ChanceTooShort):
            self.drawn_from([0x99] * 1088, 4)

    def test_no_byte_beyond_is_asked_for(self):
        shake = answering([255] * 10000)
        with mock.patch("latticesign.drawing.shake256", shake):
            self.assertRaises(ChanceTooShort, small_polynomial, [0] * 64, 0, 2)
        self.assertEqual(max(call.args[1] for call in shake.call_args_list), 1088)


class FirstOnes(unittest.TestCase):
    def test_enough(self):
        self.assertEqual(first_ones(list(range(256))), list(range(256)))
        self.assertEqual(first_ones(list(range(300))), list(range(256)))

    def test_too_few(self):
        for count in (0, 1, 255):
            self.assertRaises(ChanceTooShort, first_ones, [0] * count)


if __name__ == "__main__":
    unittest.main()
