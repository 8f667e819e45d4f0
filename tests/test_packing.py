import unittest

import reference
from latticesign.packing import packed, packed_below, unpacked, unpacked_below

WIDTHS = (3, 4, 6, 10, 13, 18, 20)


class Packing(unittest.TestCase):
    def test_written_out(self):
        self.assertEqual(packed([], 3), [])
        self.assertEqual(packed([1, 0, 0, 0, 0, 0, 0, 0], 3), [1, 0, 0])
        self.assertEqual(packed([0, 0, 4, 1, 0, 0, 0, 7], 3), [0, 3, 224])
        self.assertEqual(packed([1, 2, 15, 8], 4), [0x21, 0x8F])
        self.assertEqual(packed([1, 2, 63, 32], 6), [0x81, 0xF0, 0x83])
        self.assertEqual(packed([1023, 0, 1, 512], 10), [255, 3, 16, 0, 128])
        self.assertEqual(packed([8191, 0, 0, 0, 0, 0, 0, 1], 13), [255, 31] + [0] * 9 + [8, 0])
        self.assertEqual(packed([1, 2 ** 18 - 1, 0, 2 ** 17], 18), [1, 0, 252, 255, 15, 0, 0, 0, 128])
        self.assertEqual(packed([1, 2 ** 20 - 1, 2 ** 19, 2], 20), [1, 0, 240, 255, 255, 0, 0, 40, 0, 0])

    def test_widths(self):
        for width in WIDTHS:
            with self.subTest(width=width):
                stream = bytes(reference.chance(f"width {width}", 768))
                numbers = [int.from_bytes(stream[3 * i:3 * i + 3], "little") % 2 ** width for i in range(256)]
                answer = packed(numbers, width)
                self.assertEqual(len(answer), 32 * width)
                self.assertEqual(answer, reference.packed(numbers, width))

    def test_edges(self):
        for width in WIDTHS:
            self.assertEqual(packed([0] * 256, width), [0] * (32 * width))
            self.assertEqual(packed([2 ** width - 1] * 256, width), [255] * (32 * width))

    def test_one_polynomial_behind_another(self):
        left = [place % 8 for place in range(256)]
        right = [5] * 256
        self.assertEqual(packed(left + right, 3), packed(left, 3) + packed(right, 3))

    def test_below_a_top(self):
        self.assertEqual(packed_below(2, [2, 1, 0, -1, -2, 2, 2, 2], 3), packed([0, 1, 2, 3, 4, 0, 0, 0], 3))
        self.assertEqual(packed_below(4, [4, -4], 4), [0x80])
        self.assertEqual(packed_below(4096, [4096, -4095, 0, 0, 0, 0, 0, 0], 13), packed([0, 8191] + [4096] * 6, 13))

    def test_of_masks(self):
        g1 = 2 ** 17
        self.assertEqual(packed_below(g1, [g1, 1 - g1, 0, 0], 18), packed([0, 2 ** 18 - 1, g1, g1], 18))
        g1 = 2 ** 19
        self.assertEqual(packed_below(g1, [g1, 1 - g1], 20), packed([0, 2 ** 20 - 1], 20))

    def test_numbers_stay(self):
        numbers = list(range(8))
        packed(numbers, 3)
        packed_below(7, numbers, 3)
        self.assertEqual(numbers, list(range(8)))


class Unpacking(unittest.TestCase):
    def test_written_out(self):
        self.assertEqual(unpacked([], 3), [])
        self.assertEqual(unpacked([0, 3, 224], 3), [0, 0, 4, 1, 0, 0, 0, 7])
        self.assertEqual(unpacked([0x21, 0x8F], 4), [1, 2, 15, 8])
        self.assertEqual(unpacked([255, 3, 16, 0, 128], 10), [1023, 0, 1, 512])
        self.assertEqual(unpacked([255, 31] + [0] * 9 + [8, 0], 13), [8191, 0, 0, 0, 0, 0, 0, 1])
        self.assertEqual(unpacked([1, 0, 252, 255, 15, 0, 0, 0, 128], 18), [1, 2 ** 18 - 1, 0, 2 ** 17])
        self.assertEqual(unpacked([1, 0, 240, 255, 255, 0, 0, 40, 0, 0], 20), [1, 2 ** 20 - 1, 2 ** 19, 2])
        self.assertEqual(unpacked([0b10000001, 2], 1), [1, 0, 0, 0, 0, 0, 0, 1, 0, 1, 0, 0, 0, 0, 0, 0])

    def test_widths(self):
        for width in WIDTHS:
            with self.subTest(width=width):
                data = reference.chance(f"data {width}", 96 * width)
                numbers = unpacked(data, width)
                self.assertEqual(len(numbers), 768)
                self.assertEqual(numbers, reference.unpacked(data, width))
                self.assertEqual(packed(numbers, width), data)

    def test_edges(self):
        for width in WIDTHS:
            self.assertEqual(unpacked([0] * (32 * width), width), [0] * 256)
            self.assertEqual(unpacked([255] * (32 * width), width), [2 ** width - 1] * 256)

    def test_below_a_top(self):
        self.assertEqual(unpacked_below(2, [255, 255, 255], 3), [-5] * 8)
        self.assertEqual(unpacked_below(2, [0, 0, 0], 3), [2] * 8)
        self.assertEqual(unpacked_below(4, [0xF0], 4), [4, -11])
        self.assertEqual(unpacked_below(4096, [255] * 13, 13), [-4095] * 8)
        self.assertEqual(unpacked_below(4096, [0] * 13, 13), [4096] * 8)

    def test_below_g1(self):
        g1 = 2 ** 17
        self.assertEqual(unpacked_below(g1, [0, 0, 252, 255, 15, 0, 0, 0, 128], 18), [g1, 1 - g1, g1, 0])
        g1 = 2 ** 19
        self.assertEqual(unpacked_below(g1, [1, 0, 240, 255, 255], 20), [g1 - 1, 1 - g1])

    def test_data_stays(self):
        data = list(range(6))
        unpacked(data, 3)
        unpacked_below(2, data, 3)
        self.assertEqual(data, list(range(6)))


if __name__ == "__main__":
    unittest.main()
