import unittest

import reference
from latticesign.parting import (
    high_and_low, high_part, hinted_high_part, low_part, nearest_rest, split_high, split_low)

Q = 8380417


class NearestRest(unittest.TestCase):
    def test_of_two_the_upper_one(self):
        self.assertEqual(nearest_rest(4096, 8192), 4096)
        self.assertEqual(nearest_rest(-4096, 8192), 4096)
        self.assertEqual(nearest_rest(4096 + 5 * 8192, 8192), 4096)
        self.assertEqual(nearest_rest(1, 2), 1)

    def test_beside_the_middle(self):
        self.assertEqual(nearest_rest(4095, 8192), 4095)
        self.assertEqual(nearest_rest(4097, 8192), -4095)
        self.assertEqual(nearest_rest(8191, 8192), -1)
        self.assertEqual(nearest_rest(8192, 8192), 0)

    def test_of_an_odd_modulus(self):
        self.assertEqual([nearest_rest(z, 5) for z in range(-5, 6)], [0, 1, 2, -2, -1, 0, 1, 2, -2, -1, 0])
        self.assertEqual(nearest_rest(Q // 2, Q), Q // 2)
        self.assertEqual(nearest_rest(Q // 2 + 1, Q), -(Q // 2))


class Split(unittest.TestCase):
    def test_edges(self):
        for number, high, low in (
                (0, 0, 0), (1, 0, 1), (4095, 0, 4095), (4096, 0, 4096), (4097, 1, -4095), (8191, 1, -1), (8192, 1, 0),
                (8192 + 4096, 1, 4096), (8192 + 4097, 2, -4095),
                (Q - 1, 1023, 0), (Q - 2, 1023, -1), (Q - 4096, 1023, -4095), (Q - 4097, 1022, 4096),
                (Q, 0, 0), (Q + 4096, 0, 4096), (-1, 1023, 0), (-2, 1023, -1), (-Q, 0, 0), (5 * Q - 1, 1023, 0)):
            with self.subTest(number=number):
                self.assertEqual((split_high(number), split_low(number)), (high, low))

    def test_against_every_rest_tried(self):
        stream = reference.chance("split", 60)
        for i in range(0, 60, 3):
            number = int.from_bytes(bytes(stream[i:i + 3]), "little")
            self.assertEqual((split_high(number), split_low(number)), reference.split(number))
            self.assertEqual(reference.fast_split(number), reference.split(number))

    def test_together_again(self):
        for number in range(0, Q, 997):
            high = split_high(number)
            low = split_low(number)
            self.assertEqual(8192 * high + low, number)
            self.assertTrue(0 <= high <= 1023)
            self.assertTrue(-4096 < low <= 4096)


class HighAndLow(unittest.TestCase):
    def check(self, number, g2, high, low):
        with self.subTest(number=number, g2=g2):
            self.assertEqual(high_and_low(number, g2), (high, low))
            self.assertEqual(high_part(number, g2), high)
            self.assertEqual(low_part(number, g2), low)

    def test_edges(self):
        for g2, count in ((95232, 44), (261888, 16)):
            step = 2 * g2
            self.assertEqual(step * count, Q - 1)
            for high in (0, 1, count - 1):
                start = step * high
                self.check(start, g2, high, 0)
                self.check(start + 1, g2, high, 1)
                self.check(start + g2 - 1, g2, high, g2 - 1)
                self.check(start + g2, g2, high, g2)
            for high in (1, 2, count - 1):
                start = step * high
                self.check(start - 1, g2, high, -1)
                self.check(start - g2 + 1, g2, high, 1 - g2)
                self.check(start - g2, g2, high - 1, g2)

    def test_upper_end_goes_to_the_lowest(self):
        for g2, count in ((95232, 44), (261888, 16)):
            self.check(Q - 1, g2, 0, -1)
            self.check(Q - 2, g2, 0, -2)
            self.check(Q - g2, g2, 0, -g2)
            self.check(Q - 1 - g2, g2, count - 1, g2)
            self.check(Q - 2 - g2, g2, count - 1, g2 - 1)

    def test_beyond_q(self):
        for g2 in (95232, 261888):
            self.check(Q, g2, 0, 0)
            self.check(Q + g2, g2, 0, g2)
            self.check(-1, g2, 0, -1)
            self.check(-g2, g2, 0, -g2)
            self.check(-Q, g2, 0, 0)
            self.check(3 * Q + 2 * g2 + 5, g2, 1, 5)

    def test_together_again(self):
        for g2, count in ((95232, 44), (261888, 16)):
            for number in range(0, Q, 499):
                high, low = high_and_low(number, g2)
                self.assertEqual((2 * g2 * high + low) % Q, number)
                self.assertTrue(0 <= high < count)
                self.assertTrue(-g2 <= low <= g2)
                self.assertEqual((high, low), reference.parts(number, g2))


class HintedHighPart(unittest.TestCase):
    def check(self, number, g2, wanted):
        with self.subTest(number=number, g2=g2):
            self.assertEqual(hinted_high_part(number, g2), wanted)
            self.assertEqual(reference.next_part(number, g2), wanted)

    def test_up_above_0_else_down(self):
        for g2, count in ((95232, 44), (261888, 16)):
            for high in (1, 2, count // 2, count - 2):
                start = 2 * g2 * high
                for low in (1, 2, g2 - 1, g2):
                    self.check(start + low, g2, high + 1)
                for low in (0, -1, -2, 1 - g2):
                    self.check(start + low, g2, high - 1)

    def test_round_at_the_lowest(self):
        for g2, count in ((95232, 44), (261888, 16)):
            for low in (1, 2, g2):
                self.check(low, g2, 1)
            self.check(0, g2, count - 1)
            self.check(Q, g2, count - 1)

    def test_round_at_the_highest(self):
        for g2, count in ((95232, 44), (261888, 16)):
            start = 2 * g2 * (count - 1)
            for low in (1, 2, g2):
                self.check(start + low, g2, 0)
            for low in (0, -1, 1 - g2):
                self.check(start + low, g2, count - 2)

    def test_upper_end_belongs_to_the_lowest(self):
        for g2, count in ((95232, 44), (261888, 16)):
            for number in (Q - 1, Q - 2, Q - g2 + 1, Q - g2, -1, -g2):
                self.check(number, g2, count - 1)

    def test_as_worked_out(self):
        for g2 in (95232, 261888):
            for number in range(0, Q, 4999):
                self.assertEqual(hinted_high_part(number, g2), reference.next_part(number, g2))


if __name__ == "__main__":
    unittest.main()
