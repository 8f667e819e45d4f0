import unittest

from latticesign.kinds import is_kind, kind_of

# kind: k, l, eta, tau, g1, g2, beta, omega, challenge's bytes; pk, sk, sig bytes
TABLE = {
    44: (4, 4, 2, 39, 2 ** 17, 95232, 78, 80, 32, 1312, 2560, 2420),
    65: (6, 5, 4, 49, 2 ** 19, 261888, 196, 55, 48, 1952, 4032, 3309),
    87: (8, 7, 2, 60, 2 ** 19, 261888, 120, 75, 64, 2592, 4896, 4627),
}


class Kinds(unittest.TestCase):
    def test_table(self):
        for number, row in TABLE.items():
            kind = kind_of(number)
            self.assertEqual((kind.rows, kind.columns, kind.eta, kind.tau, kind.g1, kind.g2, kind.beta, kind.omega,
                              kind.challenge_bytes, kind.signature_bytes), row[:9] + row[11:])

    def test_bits_lead_to_the_sizes(self):
        for number, row in TABLE.items():
            kind = kind_of(number)
            self.assertEqual(32 + kind.rows * 320, row[9])
            self.assertEqual(128 + 32 * (kind.small_bits * (kind.rows + kind.columns) + 13 * kind.rows), row[10])
            hints = kind.omega + kind.rows
            self.assertEqual(kind.challenge_bytes + 32 * kind.mask_bits * kind.columns + hints, row[11])
            self.assertEqual(kind.high_bits, 6 if number == 44 else 4)

    def test_no_others(self):
        self.assertEqual([number for number in range(-300, 300) if is_kind(number)], [44, 65, 87])


if __name__ == "__main__":
    unittest.main()
