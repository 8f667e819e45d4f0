import unittest

import reference
from latticesign.polynomials import (
    Q, ROOTS, SIZE_INVERSE, added, joined, largest, matrix_times, parted, row_times, subtracted, times_each,
    transformed, transformed_back)


def numbers(label, count=256):
    stream = reference.chance(label, 4 * count)
    return [int.from_bytes(bytes(stream[4 * i:4 * i + 4]), "little") % Q for i in range(count)]


def single(place, number):
    return [number if i == place else 0 for i in range(256)]


SAMPLES = [
    [0] * 256,
    single(0, 1),
    single(1, 1),
    single(128, Q - 1),
    single(255, 1),
    [Q - 1] * 256,
    [-2, 4] * 128,
    [-(Q - 1)] * 256,
    numbers("first"),
    numbers("second"),
]


class Transform(unittest.TestCase):
    def test_roots(self):
        self.assertEqual(list(ROOTS), [pow(1753, reference.bits_turned_round(i), Q) for i in range(256)])
        self.assertEqual(256 * SIZE_INVERSE % Q, 1)

    def test_values_at_the_powers(self):
        for sample in SAMPLES:
            self.assertEqual(transformed(sample), reference.values_of(sample))

    def test_order_of_the_places(self):
        values = transformed(single(1, 1))
        self.assertEqual(values[0], 1753)
        self.assertEqual(values[1], pow(1753, 2 * 128 + 1, Q))
        self.assertEqual(values[2], pow(1753, 2 * 64 + 1, Q))
        self.assertEqual(values[128], pow(1753, 2 * 1 + 1, Q))
        self.assertEqual(values[255], pow(1753, 2 * 255 + 1, Q))

    def test_back(self):
        for sample in SAMPLES:
            wanted = [number % Q for number in sample]
            self.assertEqual(transformed_back(transformed(sample)), wanted)
            self.assertEqual(transformed_back(wanted), reference.polynomial_with(wanted))

    def test_argument_stays(self):
        sample = numbers("stays")
        kept = list(sample)
        transformed(sample)
        transformed_back(sample)
        self.assertEqual(sample, kept)


class Products(unittest.TestCase):
    def through_values(self, left, right):
        return transformed_back(row_times([transformed(left)], [transformed(right)]))

    def test_term_by_term(self):
        for left in SAMPLES:
            for right in SAMPLES[1::2]:
                self.assertEqual(self.through_values(left, right), reference.product(left, right))

    def test_top_power_turns_the_sign(self):
        self.assertEqual(self.through_values(single(255, 1), single(1, 1)), single(0, Q - 1))
        self.assertEqual(self.through_values(single(255, 1), single(255, 1)), single(254, Q - 1))

    def test_row_sums_its_products(self):
        row = [numbers(f"row {i}") for i in range(7)]
        vector = [numbers(f"vector {i}") for i in range(7)]
        wanted = [sum(row[i][place] * vector[i][place] for i in range(7)) % Q for place in range(256)]
        self.assertEqual(row_times(row, vector), wanted)

    def test_matrix(self):
        plain = [[numbers(f"matrix {r} {s}") for s in range(2)] for r in range(3)]
        vector = [[2, -2, 1, 0] * 64, numbers("vector")]
        matrix = [[reference.values_of(entry) for entry in row] for row in plain]
        wanted = []
        for row in plain:
            pairs = zip(reference.product(row[0], vector[0]), reference.product(row[1], vector[1]))
            wanted.append([(one + other) % Q for one, other in pairs])
        self.assertEqual(matrix_times(matrix, vector), wanted)

    def test_added(self):
        self.assertEqual(added([Q - 1, 0, 5, 3], [1, -2, 6, -3]), [0, Q - 2, 11, 0])

    def test_subtracted(self):
        self.assertEqual(subtracted([Q - 1, 0, 5, 3], [1, -2, 6, 3]), [Q - 2, 2, Q - 1, 0])

    def test_largest_of_both_signs(self):
        self.assertEqual(largest([0, 0]), 0)
        self.assertEqual(largest([3, -7, 5]), 7)
        self.assertEqual(largest([3, -7, 8]), 8)

    def test_one_with_each(self):
        one = [0, 1, -1, 0] * 64
        vector = [[-5] * 256, [4096, -4095] * 128, numbers("each")]
        answer = times_each(transformed(one), [transformed(other) for other in vector])
        self.assertEqual(answer, [reference.product(one, other) for other in vector])

    def test_joined(self):
        self.assertEqual(joined([[1, 2], [], [3]]), [1, 2, 3])

    def test_parted(self):
        self.assertEqual(parted([]), [])
        self.assertEqual(parted(list(range(512))), [list(range(256)), list(range(256, 512))])

    def test_long_numbers_give_the_same_products(self):
        for left in SAMPLES:
            for right in SAMPLES[1::2]:
                self.assertEqual(reference.fast_product(left, right), reference.product(left, right))


if __name__ == "__main__":
    unittest.main()
