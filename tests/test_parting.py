import unittest

import reference
from latticesign.parting import nearest_rest, split_high, split_low

Q = 8380417


class NearestRest(unittest.TestCase):
    def test_of_two_the_upper_one(self):
        self.assertEqual(nearest_rest(4096, 8192), 4096)
        self.assertEqual(nearest_rest(-4096, 8192), 4096)
        self.assertEqual(nearest_rest(4096 + 5 * 8192, 8192), 4096)
        self.assertEqual(nearest_rest(1, 2), 1)

    def test_beside_the_middle(self):
        self.assertEqual(nearest_rest(4095, 8192), 4095)
        self.assertEqual(nearest_rest(4097, 8192), -4095)
        self.assertEqual(nearest_rest(8191, 8192), -1)
        self.assertEqual(nearest_rest(8192, 8192), 0)

    def test_of_an_odd_modulus(self):
        self.assertEqual([nearest_rest(z, 5) for z in range(-5, 6)], [0, 1, 2, -2, -1, 0, 1, 2, -2, -1, 0])
        self.assertEqual(nearest_rest(Q // 2, Q), Q // 2)
        self.assertEqual(nearest_rest(Q // 2 + 1, Q), -(Q // 2))


class Split(unittest.TestCase):
    def test_edges(self):
        for number, high, low in (
                (0, 0, 0), (1, 0, 1), (4095, 0, 4095), (4096, 0, 4096), (4097, 1, -4095), (8191, 1, -1), (8192, 1, 0),
                (8192 + 4096, 1, 4096), (8192 + 4097, 2, -4095),
                (Q - 1, 1023, 0), (Q - 2, 1023, -1), (Q - 4096, 1023, -4095), (Q - 4097, 1022, 4096),
                (Q, 0, 0), (Q + 4096, 0, 4096), (-1, 1023, 0), (-2, 1023, -1), (-Q, 0, 0), (5 * Q - 1, 1023, 0)):
            with self.subTest(number=number):
                self.assertEqual((split_high(number), split_low(number)), (high, low))

    def test_against_every_rest_tried(self):
        stream = reference.chance("split", 60)
        for i in range(0, 60, 3):
            number = int.from_bytes(bytes(stream[i:i + 3]), "little")
            self.assertEqual((split_high(number), split_low(number)), reference.split(number))
            self.assertEqual(reference.fast_split(number), reference.split(number))

    def test_together_again(self):
        for number in range(0, Q, 997):
            high = split_high(number)
            low = split_low(number)
            self.assertEqual(8192 * high + low, number)
            self.assertTrue(0 <= high <= 1023)
            self.assertTrue(-4096 < low <= 4096)


if __name__ == "__main__":
    unittest.main()
