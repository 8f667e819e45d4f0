import unittest

import reference
from latticesign.keymaking import packed_below
from latticesign.packing import packed


class Packing(unittest.TestCase):
    def test_written_out(self):
        self.assertEqual(packed([], 3), [])
        self.assertEqual(packed([1, 0, 0, 0, 0, 0, 0, 0], 3), [1, 0, 0])
        self.assertEqual(packed([0, 0, 4, 1, 0, 0, 0, 7], 3), [0, 3, 224])
        self.assertEqual(packed([1, 2, 15, 8], 4), [0x21, 0x8F])
        self.assertEqual(packed([1023, 0, 1, 512], 10), [255, 3, 16, 0, 128])
        self.assertEqual(packed([8191, 0, 0, 0, 0, 0, 0, 1], 13), [255, 31] + [0] * 9 + [8, 0])

    def test_widths(self):
        for width in (3, 4, 10, 13):
            with self.subTest(width=width):
                stream = reference.chance(f"width {width}", 512)
                numbers = [(stream[2 * i] + 256 * stream[2 * i + 1]) % 2 ** width for i in range(256)]
                answer = packed(numbers, width)
                self.assertEqual(len(answer), 32 * width)
                self.assertEqual(answer, reference.packed(numbers, width))

    def test_edges(self):
        for width in (3, 4, 10, 13):
            self.assertEqual(packed([0] * 256, width), [0] * (32 * width))
            self.assertEqual(packed([2 ** width - 1] * 256, width), [255] * (32 * width))

    def test_one_polynomial_behind_another(self):
        left = [place % 8 for place in range(256)]
        right = [5] * 256
        self.assertEqual(packed(left + right, 3), packed(left, 3) + packed(right, 3))

    def test_below_a_top(self):
        self.assertEqual(packed_below(2, [2, 1, 0, -1, -2, 2, 2, 2], 3), packed([0, 1, 2, 3, 4, 0, 0, 0], 3))
        self.assertEqual(packed_below(4, [4, -4], 4), [0x80])
        self.assertEqual(packed_below(4096, [4096, -4095, 0, 0, 0, 0, 0, 0], 13), packed([0, 8191] + [4096] * 6, 13))

    def test_numbers_stay(self):
        numbers = list(range(8))
        packed(numbers, 3)
        packed_below(7, numbers, 3)
        self.assertEqual(numbers, list(range(8)))


if __name__ == "__main__":
    unittest.main()
