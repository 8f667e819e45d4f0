import unittest

import reference
from latticesign.kinds import kind_of
from latticesign.polynomials import Q, transformed_back
from latticesign.signature import Signature
from latticesign.signaturechecking import claimed_highs, upper_parts

KINDS = (44, 65, 87)


class Parts(unittest.TestCase):
    def test_where_each_begins(self):
        for number in KINDS:
            kind = kind_of(number)
            e = [7] * kind.challenge_bytes
            z = [255] * (kind.columns * 32 * kind.mask_bits)
            signature = Signature(kind, e + z + [5] + [0] * (kind.omega - 1) + [1] * kind.rows)
            self.assertEqual(signature.e, e)
            self.assertEqual(signature.z, [1 - kind.g1] * (256 * kind.columns))
            self.assertEqual(signature.hints, [[5]] + [[]] * (kind.rows - 1))

    def test_as_taken_apart_elsewhere(self):
        for number in KINDS:
            kind = kind_of(number)
            sig = reference.chance(f"sig {number}", reference.SIGNATURE_SIZES[number])
            end = kind.challenge_bytes + kind.columns * 32 * kind.g1.bit_length()
            z = reference.unpacked(sig[kind.challenge_bytes:end], kind.g1.bit_length())
            self.assertEqual(Signature(kind, sig).z, [kind.g1 - one for one in z])

    def test_zeros(self):
        for number in KINDS:
            kind = kind_of(number)
            signature = Signature(kind, [0] * reference.SIGNATURE_SIZES[number])
            self.assertEqual(signature.z, [kind.g1] * (256 * kind.columns))
            self.assertEqual(signature.hints, [[]] * kind.rows)

    def test_hints_that_are_not_packed_just_so(self):
        for number in KINDS:
            kind = kind_of(number)
            self.assertIsNone(Signature(kind, [255] * reference.SIGNATURE_SIZES[number]).hints)
            self.assertIsNone(Signature(kind, [0] * (reference.SIGNATURE_SIZES[number] - 2) + [1, 0]).hints)


class UpperParts(unittest.TestCase):
    def test_times_the_step(self):
        for number in KINDS:
            rows = reference.FIXED[number][0]
            count = reference.SIZES[number][0]
            for pk in (reference.chance("pk", count), [0] * count, [255] * count, [0] * (count - 1) + [255]):
                numbers = reference.unpacked(pk[32:], 10)
                wanted = [[8192 * one for one in numbers[256 * r:256 * r + 256]] for r in range(rows)]
                self.assertEqual([transformed_back(values) for values in upper_parts(pk)], wanted)

    def test_tops_are_minus_1(self):
        self.assertEqual(transformed_back(upper_parts([255] * 1312)[3]), [Q - 1] * 256)


class ClaimedHighs(unittest.TestCase):
    def test_term_by_term(self):
        for number in KINDS:
            kind = kind_of(number)
            pk = reference.chance(f"claimed {number}", reference.SIZES[number][0])
            hints = [5, 6, 250] + [0] * (kind.omega - 3) + [1] + [3] * (kind.rows - 1)
            sig = reference.chance("sig", reference.SIGNATURE_SIZES[number] - kind.omega - kind.rows) + hints
            signature = Signature(kind, sig)
            c = reference.challenge(bytes(signature.e), kind.tau)
            matrix = [[reference.matrix_entry(pk[:32], r, s) for s in range(kind.columns)] for r in range(kind.rows)]
            x = reference.Checker(number, pk).x(signature.z, c)
            wanted = [reference.parts(one, kind.g2)[0] for row in x for one in row]
            for row, place in ((0, 5), (1, 6), (1, 250)):
                wanted[256 * row + place] = reference.next_part(x[row][place], kind.g2)
            self.assertEqual(claimed_highs(kind, matrix, c, pk, signature), wanted)


if __name__ == "__main__":
    unittest.main()
