import unittest

import reference
from latticesign.digests import challenge_seed, message_digest
from latticesign.kinds import kind_of


class Digests(unittest.TestCase):
    def test_message(self):
        tr = reference.chance("tr", 64)
        for ctx, m in (([], []), ([1, 2], [3]), ([0] * 255, list(range(256)) * 5), ([], [0]), ([0], [])):
            wanted = list(reference.h(tr + [0, len(ctx)] + ctx + m, 64))
            self.assertEqual(message_digest(tr, ctx, m), wanted)

    def test_challenge_seed(self):
        mu = reference.chance("mu", 64)
        for number, bits, parts, count in ((44, 6, 44, 32), (65, 4, 16, 48), (87, 4, 16, 64)):
            kind = kind_of(number)
            highs = [byte % parts for byte in reference.chance(f"w {number}", 256 * kind.rows)]
            for numbers in (highs, [0] * len(highs), [parts - 1] * len(highs)):
                wanted = list(reference.h(mu + reference.packed(numbers, bits), count))
                self.assertEqual(challenge_seed(kind, mu, numbers), wanted)


if __name__ == "__main__":
    unittest.main()
