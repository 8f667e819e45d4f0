import unittest

import reference
from latticesign.hints import hint_places, packed_hints

Q = 8380417


class Places(unittest.TestCase):
    def test_no_change(self):
        for g2 in (95232, 261888):
            self.assertEqual(hint_places(list(range(0, Q, Q // 255)), [0] * 256, g2), [])

    def test_round_the_edges(self):
        for g2 in (95232, 261888):
            numbers = [g2, g2, g2 - 4, g2 - 4, g2 + 1, g2 + 1, g2 + 5, g2 + 5]
            changes = [0, 1, 4, 5, 0, Q - 1, Q - 4, -5]
            self.assertEqual(hint_places(numbers, changes, g2), [1, 3, 5, 7])

    def test_top_and_bottom_are_one(self):
        for g2 in (95232, 261888):
            numbers = [Q - 1, Q - g2, Q - g2, Q - 1 - g2, 0, 0, 3]
            changes = [1, g2, Q - 1, 1, Q - g2, Q - g2 - 1, Q - 4]
            self.assertEqual(hint_places(numbers, changes, g2), [2, 3, 5])

    def test_as_worked_out(self):
        for g2 in (95232, 261888):
            stream = reference.chance(f"hints {g2}", 256 * 6)
            numbers = [int.from_bytes(bytes(stream[6 * i:6 * i + 3]), "little") % Q for i in range(256)]
            changes = [int.from_bytes(bytes(stream[6 * i + 3:6 * i + 6]), "little") % g2 for i in range(256)]
            wanted = [i for i in range(256)
                      if reference.parts(numbers[i], g2)[0] != reference.parts(numbers[i] + changes[i], g2)[0]]
            self.assertTrue(wanted)
            self.assertEqual(hint_places(numbers, changes, g2), wanted)


class Packed(unittest.TestCase):
    def test_none(self):
        self.assertEqual(packed_hints([[], [], [], []], 80), [0] * 84)

    def test_rows_one_after_another(self):
        rows = [[3, 200], [0], [255], [0, 1, 2]]
        self.assertEqual(packed_hints(rows, 80), [3, 200, 0, 255, 0, 1, 2] + [0] * 73 + [2, 3, 4, 7])

    def test_rows_without_any(self):
        self.assertEqual(packed_hints([[], [5], [], [7], [], []], 55), [5, 7] + [0] * 53 + [0, 1, 1, 2, 2, 2])

    def test_exactly_omega(self):
        first = list(range(100, 175))
        self.assertEqual(packed_hints([first] + [[]] * 7, 75), first + [75] * 8)
        self.assertEqual(packed_hints([[]] * 7 + [first], 75), first + [0] * 7 + [75])
        rows = [[1] * 20, [2] * 20, [3] * 20, [4] * 20]
        self.assertEqual(packed_hints(rows, 80), [1] * 20 + [2] * 20 + [3] * 20 + [4] * 20 + [20, 40, 60, 80])

    def test_rows_stay(self):
        rows = [[1], [], [2, 3]]
        packed_hints(rows, 10)
        self.assertEqual(rows, [[1], [], [2, 3]])


if __name__ == "__main__":
    unittest.main()
