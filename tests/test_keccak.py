import hashlib
import unittest

import reference
from latticesign.keccak import shake128, shake256


class Shake(unittest.TestCase):
    def test_of_nothing(self):
        self.assertEqual(bytes(shake128([], 32)).hex(),
                         "7f9c2ba4e88f827d616045507605853ed73b8093f6efbc88eb1a6eacfa66ef26")
        self.assertEqual(bytes(shake256([], 32)).hex(),
                         "46b9dd2b0ba88d13233b3feb743eeb243fcd52ea62b81b82b50c27646ed5762f")

    def check_lengths(self, ours, theirs, block):
        near = [0, 1, 7, 8, 9, 34, 66] + [times * block + shift for times in (1, 2, 3) for shift in (-1, 0, 1)]
        for length in near:
            data = reference.chance(f"data {length}", length)
            for count in near:
                with self.subTest(length=length, count=count):
                    self.assertEqual(ours(data, count), list(theirs(bytes(data)).digest(count)))

    def test_128_round_its_blocks(self):
        self.check_lengths(shake128, hashlib.shake_128, 168)

    def test_256_round_its_blocks(self):
        self.check_lengths(shake256, hashlib.shake_256, 136)

    def test_as_long_as_the_document_asks(self):
        data = reference.chance("long", 5000)
        self.assertEqual(shake128(data[:34], 4032), list(hashlib.shake_128(bytes(data[:34])).digest(4032)))
        self.assertEqual(shake256(data[:66], 1088), list(hashlib.shake_256(bytes(data[:66])).digest(1088)))
        self.assertEqual(shake256(data, 64), list(hashlib.shake_256(bytes(data)).digest(64)))

    def test_all_zeros_and_all_ones(self):
        for byte in (0, 255):
            for length in (32, 135, 136, 167, 168, 400):
                data = [byte] * length
                self.assertEqual(shake128(data, 200), list(hashlib.shake_128(bytes(data)).digest(200)))
                self.assertEqual(shake256(data, 200), list(hashlib.shake_256(bytes(data)).digest(200)))

    def test_data_stays(self):
        data = reference.chance("stays", 200)
        kept = list(data)
        shake128(data, 10)
        shake256(data, 10)
        self.assertEqual(data, kept)


if __name__ == "__main__":
    unittest.main()
