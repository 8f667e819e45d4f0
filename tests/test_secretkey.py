import unittest

import reference
from latticesign.kinds import kind_of
from latticesign.polynomials import Q, transformed_back
from latticesign.secretkey import SecretKey


def plain(vector):
    return [[reference.nearest(number, Q) for number in transformed_back(values)] for values in vector]


class Parts(unittest.TestCase):
    def test_as_taken_apart_elsewhere(self):
        for kind, sizes in reference.SIZES.items():
            for sk in (reference.chance(f"sk {kind}", sizes[1]), reference.keys(kind, [7] * 32)[1 + sizes[0]:]):
                secret = SecretKey(kind_of(kind), sk)
                wanted = reference.Signer(kind, sk)
                self.assertEqual(secret.rho, list(wanted.rho))
                self.assertEqual(secret.signing_seed, list(wanted.big_k))
                self.assertEqual(secret.tr, list(wanted.tr))
                self.assertEqual(plain(secret.s1), wanted.s1)
                self.assertEqual(plain(secret.s2), wanted.s2)
                self.assertEqual(plain(secret.t0), wanted.t0)

    def test_where_each_begins(self):
        secret = SecretKey(kind_of(44), [1] * 32 + [2] * 32 + [3] * 64 + [0] * 384 + [255] * 384 + [0] * 1664)
        self.assertEqual((secret.rho, secret.signing_seed, secret.tr), ([1] * 32, [2] * 32, [3] * 64))
        self.assertEqual(plain(secret.s1), [[2] * 256] * 4)
        self.assertEqual(plain(secret.s2), [[-5] * 256] * 4)
        self.assertEqual(plain(secret.t0), [[4096] * 256] * 4)

    def test_numbers_that_keys_never_makes(self):
        for kind, top in ((44, -5), (65, -11), (87, -5)):
            rows, columns, _ = reference.FIXED[kind]
            secret = SecretKey(kind_of(kind), [255] * reference.SIZES[kind][1])
            self.assertEqual(plain(secret.s1), [[top] * 256] * columns)
            self.assertEqual(plain(secret.s2), [[top] * 256] * rows)
            self.assertEqual(plain(secret.t0), [[-4095] * 256] * rows)


if __name__ == "__main__":
    unittest.main()
