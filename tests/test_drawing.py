import unittest
from unittest import mock

import reference
from latticesign.drawing import (
    challenge_from, challenge_places, drawn_challenge, drawn_matrix, first_ones, mask_polynomial, mask_polynomials,
    matrix_polynomial, numbers_below_q, small_numbers, small_polynomial, small_polynomials)
from latticesign.polynomials import Q
from latticesign.refusals import ChanceTooShort

TAKEN_THREE = [7, 1, 0]
PASSED_THREE = [255, 255, 127]


def three(number):
    return [number % 256, number // 256 % 256, number // 65536]


def answering(stream):
    """A SHAKE whose answers are the beginnings of this one stream."""
    return mock.Mock(side_effect=lambda data, count: stream[:count])


class Matrix(unittest.TestCase):
    def test_lowest_byte_first(self):
        self.assertEqual(numbers_below_q([1, 2, 3, 4, 5, 6]), [1 + 2 * 256 + 3 * 65536, 4 + 5 * 256 + 6 * 65536])

    def test_round_q(self):
        stream = three(Q - 1) + three(Q) + three(0) + three(Q + 1) + three(2 ** 23 - 1) + three(1)
        self.assertEqual(numbers_below_q(stream), [Q - 1, 0, 1])

    def test_highest_bit_does_not_count(self):
        self.assertEqual(numbers_below_q([5, 0, 128, 255, 255, 255, 0, 0, 255]), [5, 127 * 65536])

    def test_polynomials(self):
        for label in ("rho", "another"):
            rho = reference.chance(label, 32)
            for r, s in ((0, 0), (0, 1), (1, 0), (7, 6), (5, 4)):
                self.assertEqual(matrix_polynomial(rho, r, s), reference.matrix_entry(rho, r, s))

    def test_rows_and_columns(self):
        rho = [0] * 32
        wanted = [[reference.matrix_entry(rho, r, s) for s in range(2)] for r in range(3)]
        self.assertEqual(drawn_matrix(rho, 3, 2), wanted)

    def drawn_from(self, stream):
        self.assertEqual(len(stream), 4032)
        with mock.patch("latticesign.drawing.shake128", answering(stream)):
            return matrix_polynomial([0] * 32, 0, 0)

    def test_all_of_the_bytes_are_used(self):
        stream = PASSED_THREE * (1344 - 256) + TAKEN_THREE * 256
        self.assertEqual(self.drawn_from(stream), [263] * 256)

    def test_some_here_and_some_there(self):
        stream = PASSED_THREE * 100 + TAKEN_THREE * 200 + PASSED_THREE * 900 + three(9) * 144
        self.assertEqual(self.drawn_from(stream), [263] * 200 + [9] * 56)

    def test_one_too_few(self):
        with self.assertRaises(ChanceTooShort):
            self.drawn_from(PASSED_THREE * (1344 - 255) + TAKEN_THREE * 255)

    def test_none(self):
        with self.assertRaises(ChanceTooShort):
            self.drawn_from([255] * 4032)

    def test_no_byte_beyond_is_asked_for(self):
        shake = answering([255] * 10000)
        with mock.patch("latticesign.drawing.shake128", shake):
            self.assertRaises(ChanceTooShort, matrix_polynomial, [0] * 32, 0, 0)
        self.assertEqual(max(call.args[1] for call in shake.call_args_list), 4032)


class SmallOnes(unittest.TestCase):
    def test_eta_2_half_by_half(self):
        stream = [0x10, 0x32, 0x54, 0x76, 0x98, 0xBA, 0xDC, 0xFE]
        self.assertEqual(small_numbers(stream, 2), [2, 1, 0, -1, -2] * 3)

    def test_eta_4_half_by_half(self):
        stream = [0x10, 0x32, 0x54, 0x76, 0x98, 0xBA, 0xDC, 0xFE]
        self.assertEqual(small_numbers(stream, 4), [4, 3, 2, 1, 0, -1, -2, -3, -4])

    def test_lower_half_first(self):
        self.assertEqual(small_numbers([0x40, 0x04, 0xF1, 0x1F], 2), [2, -2, -2, 2, 1, 1])
        self.assertEqual(small_numbers([0x80, 0x08, 0x91, 0x19], 4), [4, -4, -4, 4, 3, 3])

    def test_polynomials(self):
        for label in ("seed", "another"):
            seed = reference.chance(label, 64)
            for eta in (2, 4):
                for j in (0, 1, 14, 255, 256, 258, 65535):
                    self.assertEqual(small_polynomial(seed, j, eta), reference.small(seed, j, eta))

    def test_numbers_follow(self):
        seed = [255] * 64
        self.assertEqual(small_polynomials(seed, 5, 3, 4), [reference.small(seed, j, 4) for j in (5, 6, 7)])

    def drawn_from(self, stream, eta):
        self.assertEqual(len(stream), 1088)
        with mock.patch("latticesign.drawing.shake256", answering(stream)):
            return small_polynomial([0] * 64, 0, eta)

    def test_all_of_the_bytes_are_used(self):
        for eta in (2, 4):
            self.assertEqual(self.drawn_from([255] * (1088 - 128) + [0x11] * 128, eta), [eta - 1] * 256)

    def test_some_here_and_some_there(self):
        for eta in (2, 4):
            stream = [0x1F] * 200 + [255] * 800 + [0xF0] * 88
            self.assertEqual(self.drawn_from(stream, eta), [eta - 1] * 200 + [eta] * 56)

    def test_one_too_few(self):
        for eta in (2, 4):
            with self.assertRaises(ChanceTooShort):
                self.drawn_from([255] * (1088 - 128) + [0x11] * 127 + [0xF1], eta)

    def test_none(self):
        with self.assertRaises(ChanceTooShort):
            self.drawn_from([0xFF] * 1088, 2)
        with self.assertRaises(ChanceTooShort):
            self.drawn_from([0x99] * 1088, 4)

    def test_no_byte_beyond_is_asked_for(self):
        shake = answering([255] * 10000)
        with mock.patch("latticesign.drawing.shake256", shake):
            self.assertRaises(ChanceTooShort, small_polynomial, [0] * 64, 0, 2)
        self.assertEqual(max(call.args[1] for call in shake.call_args_list), 1088)


class Masks(unittest.TestCase):
    def test_polynomials(self):
        for g1, bits in ((2 ** 17, 18), (2 ** 19, 20)):
            for label in ("seed", "another"):
                seed = reference.chance(label, 64)
                for number in (0, 1, 255, 256, 257, 3999, 6999, 65535):
                    with self.subTest(g1=g1, number=number):
                        self.assertEqual(mask_polynomial(seed, number, g1, bits), reference.mask(seed, number, g1))

    def test_what_is_asked_of_shake(self):
        for number, two in ((0, [0, 0]), (255, [255, 0]), (256, [0, 1]), (6999, [87, 27])):
            for g1, bits, count in ((2 ** 17, 18, 576), (2 ** 19, 20, 640)):
                shake = answering([0] * 1000)
                with mock.patch("latticesign.drawing.shake256", shake):
                    mask_polynomial([9] * 64, number, g1, bits)
                shake.assert_called_once_with([9] * 64 + two, count)

    def drawn_from(self, stream, g1, bits):
        with mock.patch("latticesign.drawing.shake256", answering(stream)):
            return mask_polynomial([0] * 64, 0, g1, bits)

    def test_edges(self):
        for g1, bits in ((2 ** 17, 18), (2 ** 19, 20)):
            self.assertEqual(self.drawn_from([0] * 1000, g1, bits), [g1] * 256)
            self.assertEqual(self.drawn_from([255] * 1000, g1, bits), [1 - g1] * 256)

    def test_lowest_bits_first(self):
        numbers = self.drawn_from([1, 0, 4] + [0] * 997, 2 ** 17, 18)
        self.assertEqual(numbers[:3], [2 ** 17 - 1, 2 ** 17 - 1, 2 ** 17])
        numbers = self.drawn_from([1, 0, 16] + [0] * 997, 2 ** 19, 20)
        self.assertEqual(numbers[:3], [2 ** 19 - 1, 2 ** 19 - 1, 2 ** 19])

    def test_numbers_follow(self):
        seed = [255] * 64
        for first, count in ((0, 4), (254, 4), (6993, 7)):
            wanted = [reference.mask(seed, first + r, 2 ** 19) for r in range(count)]
            self.assertEqual(mask_polynomials(seed, first, count, 2 ** 19, 20), wanted)


class Challenge(unittest.TestCase):
    def test_seeds(self):
        for tau, count in ((39, 32), (49, 48), (60, 64)):
            for label in range(20):
                seed = reference.chance(f"challenge {label}", count)
                answer = drawn_challenge(seed, tau)
                self.assertEqual(answer, reference.challenge(seed, tau))
                self.assertEqual(len(answer), 256)
                self.assertEqual(sorted(set(answer)), [-1, 0, 1])
                self.assertEqual(sum(abs(number) for number in answer), tau)

    def test_signs_lowest_bit_first(self):
        for tau in (39, 49, 60):
            places = list(range(256 - tau, 256))
            for signs in ([0] * 8, [255] * 8, [0xAA] * 8, [1, 0, 0x80, 0, 0, 0, 0, 0], [0, 0, 0, 0x10, 0, 0, 2, 0]):
                bits = [signs[i // 8] >> i % 8 & 1 for i in range(tau)]
                wanted = [0] * (256 - tau) + [-1 if bit else 1 for bit in bits]
                self.assertEqual(challenge_from(signs + places, tau), wanted)

    def test_a_place_gives_its_number_on(self):
        # every place takes what the first one has, which then takes the next sign
        signs = [0b00000110] + [0] * 7
        wanted = [1] + [0] * 216 + [0] + [1, -1, -1] + [1] * 35
        self.assertEqual(challenge_from(signs + [0] * 39, 39), wanted)

    def test_bytes_above_the_place_are_passed_over(self):
        self.assertEqual(challenge_places([0] * 8 + [218, 217, 219, 218, 255, 219], 39), [217, 218, 219])
        self.assertEqual(challenge_places([0] * 8 + [208, 207, 207, 210, 209], 49), [207, 207, 209])
        self.assertEqual(challenge_places([0] * 8 + [197, 255, 196, 0, 199, 198], 60), [196, 0, 198])
        passed = challenge_from([0] * 8 + [218] + [217] + [219, 255] + list(range(218, 256)), 39)
        self.assertEqual(passed, [0] * 217 + [1] * 39)

    def test_last_place_takes_every_byte(self):
        self.assertEqual(challenge_places([0] * 8 + [0] * 38 + [255], 39), [0] * 38 + [255])

    def test_signs_are_no_places(self):
        self.assertEqual(challenge_places([0] * 8, 39), [])
        self.assertEqual(challenge_places([0] * 8 + [5], 39), [5])

    def test_no_more_places_than_tau(self):
        for tau in (39, 49, 60):
            self.assertEqual(challenge_places([0] * 8 + [7] * tau + [3] * 50, tau), [7] * tau)

    def drawn_from(self, stream, tau):
        self.assertEqual(len(stream), 1096)
        with mock.patch("latticesign.drawing.shake256", answering(stream)):
            return drawn_challenge([0] * 32, tau)

    def test_all_of_the_bytes_are_used(self):
        for tau in (39, 49, 60):
            answer = self.drawn_from([0] * 8 + [255] * (1088 - tau) + [0] * tau, tau)
            self.assertEqual(answer, [1] + [0] * (256 - tau) + [1] * (tau - 1))

    def test_one_too_few(self):
        for tau in (39, 49, 60):
            with self.assertRaises(ChanceTooShort):
                self.drawn_from([0] * 8 + [255] * (1088 - tau + 1) + [0] * (tau - 1), tau)

    def test_none(self):
        for tau in (39, 49, 60):
            with self.assertRaises(ChanceTooShort):
                self.drawn_from([255] * 1096, tau)
            self.assertRaises(ChanceTooShort, challenge_from, [255] * 1096, tau)

    def test_no_byte_beyond_is_asked_for(self):
        shake = answering([255] * 10000)
        with mock.patch("latticesign.drawing.shake256", shake):
            self.assertRaises(ChanceTooShort, drawn_challenge, [0] * 32, 39)
        self.assertEqual(max(call.args[1] for call in shake.call_args_list), 1096)


class FirstOnes(unittest.TestCase):
    def test_enough(self):
        self.assertEqual(first_ones(list(range(256))), list(range(256)))
        self.assertEqual(first_ones(list(range(300))), list(range(256)))

    def test_too_few(self):
        for count in (0, 1, 255):
            self.assertRaises(ChanceTooShort, first_ones, [0] * count)


if __name__ == "__main__":
    unittest.main()
