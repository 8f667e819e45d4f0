import unittest
from unittest import mock

import reference
from latticesign.kinds import kind_of
from latticesign.refusals import AllTriesRejected
from latticesign.signaturemaking import made_signature, shown_answer, shown_hints

Q = 8380417
KINDS = (44, 65, 87)


def zeros(count):
    return [[0] * 256 for _ in range(count)]


def at(rows, row, place, number):
    answer = [list(one) for one in rows]
    answer[row][place] = number
    return answer


class Answer(unittest.TestCase):
    def test_masks_are_shifted(self):
        for number in KINDS:
            kind = kind_of(number)
            masks = at(at(zeros(kind.columns), 0, 0, 5), 1, 255, -5)
            shifts = at(at(at(zeros(kind.columns), 0, 0, Q - 7), 1, 255, 6), 2, 3, Q - 1)
            wanted = [-2] + [0] * 510 + [1] + [0] * 3 + [-1] + [0] * (256 * kind.columns - 516)
            self.assertEqual(shown_answer(kind, masks, shifts), wanted)

    def test_edges(self):
        for number in KINDS:
            kind = kind_of(number)
            limit = kind.g1 - kind.beta
            for row, place in ((0, 0), (kind.columns - 1, 255)):
                for sign in (1, -1):
                    below = at(zeros(kind.columns), row, place, sign * (limit - 1))
                    self.assertEqual(max(shown_answer(kind, below, zeros(kind.columns)), key=abs), sign * (limit - 1))
                    for there in (limit, limit + 1, kind.g1):
                        masks = at(zeros(kind.columns), row, place, sign * there)
                        self.assertIsNone(shown_answer(kind, masks, zeros(kind.columns)))

    def test_the_shift_counts(self):
        for number in KINDS:
            kind = kind_of(number)
            limit = kind.g1 - kind.beta
            masks = at(zeros(kind.columns), 0, 9, limit - 1)
            self.assertIsNone(shown_answer(kind, masks, at(zeros(kind.columns), 0, 9, 1)))
            self.assertIsNotNone(shown_answer(kind, masks, at(zeros(kind.columns), 0, 9, Q - 1)))
            masks = at(zeros(kind.columns), 0, 9, limit)
            self.assertIsNotNone(shown_answer(kind, masks, at(zeros(kind.columns), 0, 9, Q - 1)))


class Hints(unittest.TestCase):
    def test_none(self):
        for number in KINDS:
            kind = kind_of(number)
            self.assertEqual(shown_hints(kind, zeros(kind.rows), zeros(kind.rows)), [[]] * kind.rows)

    def test_low_parts(self):
        for number in KINDS:
            kind = kind_of(number)
            limit = kind.g2 - kind.beta
            for start in (0, 2 * kind.g2, Q - 1 - 2 * kind.g2):
                for row, place in ((0, 0), (kind.rows - 1, 255)):
                    for sign in (1, -1):
                        below = at(zeros(kind.rows), row, place, (start + sign * (limit - 1)) % Q)
                        self.assertEqual(shown_hints(kind, below, zeros(kind.rows)), [[]] * kind.rows)
                        there = at(zeros(kind.rows), row, place, (start + sign * limit) % Q)
                        self.assertIsNone(shown_hints(kind, there, zeros(kind.rows)))

    def test_what_is_added(self):
        for number in KINDS:
            kind = kind_of(number)
            for row, place in ((0, 0), (kind.rows - 1, 255)):
                for sign in (1, -1):
                    below = at(zeros(kind.rows), row, place, sign * (kind.g2 - 1) % Q)
                    self.assertEqual(shown_hints(kind, zeros(kind.rows), below), [[]] * kind.rows)
                    there = at(zeros(kind.rows), row, place, sign * kind.g2 % Q)
                    self.assertIsNone(shown_hints(kind, zeros(kind.rows), there))

    def with_hints(self, number, counts):
        """Rows that have as many hints as told, from their ends on."""
        kind = kind_of(number)
        x = [[kind.g2 - kind.beta - 1] * 256 for _ in range(kind.rows)]
        u = [[kind.beta + 1] * (256 - count) + [kind.beta + 2] * count for count in counts]
        return shown_hints(kind, x, u)

    def test_exactly_omega_and_more(self):
        for number in KINDS:
            kind = kind_of(number)
            for row in (0, 1, kind.rows - 1):
                counts = [kind.omega if r == row else 0 for r in range(kind.rows)]
                wanted = [list(range(256 - count, 256)) for count in counts]
                self.assertEqual(self.with_hints(number, counts), wanted)
                for other in range(kind.rows):
                    more = [count + (r == other) for r, count in enumerate(counts)]
                    self.assertIsNone(self.with_hints(number, more))
            self.assertIsNone(self.with_hints(number, [256] * kind.rows))

    def test_over_several_rows(self):
        self.assertEqual(self.with_hints(44, [0, 2, 0, 1]), [[], [254, 255], [], [255]])
        self.assertIsNotNone(self.with_hints(44, [20, 20, 20, 20]))
        self.assertIsNone(self.with_hints(44, [20, 20, 21, 20]))


class Tries(unittest.TestCase):
    def run_with(self, number, answers):
        """What comes of these tries, and with which masks they were made."""
        numbers = []

        def masks(seed, first, count, g1, bits):
            numbers.append((first, count, g1, bits))

        with mock.patch("latticesign.signaturemaking.tried", mock.Mock(side_effect=answers)), \
                mock.patch("latticesign.signaturemaking.mask_polynomials", masks):
            sk = [0] * reference.SIZES[number][1]
            try:
                return made_signature(kind_of(number), sk, [], [], [0] * 32), numbers
            except AllTriesRejected:
                return None, numbers

    def test_first(self):
        self.assertEqual(self.run_with(44, [[1, 2]]), ([1, 2], [(0, 4, 2 ** 17, 18)]))

    def test_masks_go_on(self):
        answer, numbers = self.run_with(65, [None, None, [3]])
        self.assertEqual(answer, [3])
        self.assertEqual(numbers, [(0, 5, 2 ** 19, 20), (5, 5, 2 ** 19, 20), (10, 5, 2 ** 19, 20)])

    def test_thousandth_counts(self):
        for number in KINDS:
            answer, numbers = self.run_with(number, [None] * 999 + [[5]])
            self.assertEqual(answer, [5])
            self.assertEqual(numbers[-1][0], 999 * kind_of(number).columns)

    def test_a_thousand_and_no_more(self):
        for number in KINDS:
            answer, numbers = self.run_with(number, [None] * 1000 + [[5]])
            self.assertIsNone(answer)
            self.assertEqual(len(numbers), 1000)


if __name__ == "__main__":
    unittest.main()
