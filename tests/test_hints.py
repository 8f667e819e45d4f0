import unittest

import reference
from latticesign.hints import hint_places, hinted_highs, is_rising, packed_hints, unpacked_hints

Q = 8380417


class Places(unittest.TestCase):
    def test_no_change(self):
        for g2 in (95232, 261888):
            self.assertEqual(hint_places(list(range(0, Q, Q // 255)), [0] * 256, g2), [])

    def test_round_the_edges(self):
        for g2 in (95232, 261888):
            numbers = [g2, g2, g2 - 4, g2 - 4, g2 + 1, g2 + 1, g2 + 5, g2 + 5]
            changes = [0, 1, 4, 5, 0, Q - 1, Q - 4, -5]
            self.assertEqual(hint_places(numbers, changes, g2), [1, 3, 5, 7])

    def test_top_and_bottom_are_one(self):
        for g2 in (95232, 261888):
            numbers = [Q - 1, Q - g2, Q - g2, Q - 1 - g2, 0, 0, 3]
            changes = [1, g2, Q - 1, 1, Q - g2, Q - g2 - 1, Q - 4]
            self.assertEqual(hint_places(numbers, changes, g2), [2, 3, 5])

    def test_as_worked_out(self):
        for g2 in (95232, 261888):
            stream = reference.chance(f"hints {g2}", 256 * 6)
            numbers = [int.from_bytes(bytes(stream[6 * i:6 * i + 3]), "little") % Q for i in range(256)]
            changes = [int.from_bytes(bytes(stream[6 * i + 3:6 * i + 6]), "little") % g2 for i in range(256)]
            wanted = [i for i in range(256)
                      if reference.parts(numbers[i], g2)[0] != reference.parts(numbers[i] + changes[i], g2)[0]]
            self.assertTrue(wanted)
            self.assertEqual(hint_places(numbers, changes, g2), wanted)


class Packed(unittest.TestCase):
    def test_none(self):
        self.assertEqual(packed_hints([[], [], [], []], 80), [0] * 84)

    def test_rows_one_after_another(self):
        rows = [[3, 200], [0], [255], [0, 1, 2]]
        self.assertEqual(packed_hints(rows, 80), [3, 200, 0, 255, 0, 1, 2] + [0] * 73 + [2, 3, 4, 7])

    def test_rows_without_any(self):
        self.assertEqual(packed_hints([[], [5], [], [7], [], []], 55), [5, 7] + [0] * 53 + [0, 1, 1, 2, 2, 2])

    def test_exactly_omega(self):
        first = list(range(100, 175))
        self.assertEqual(packed_hints([first] + [[]] * 7, 75), first + [75] * 8)
        self.assertEqual(packed_hints([[]] * 7 + [first], 75), first + [0] * 7 + [75])
        rows = [[1] * 20, [2] * 20, [3] * 20, [4] * 20]
        self.assertEqual(packed_hints(rows, 80), [1] * 20 + [2] * 20 + [3] * 20 + [4] * 20 + [20, 40, 60, 80])

    def test_rows_stay(self):
        rows = [[1], [], [2, 3]]
        packed_hints(rows, 10)
        self.assertEqual(rows, [[1], [], [2, 3]])


class Unpacked(unittest.TestCase):
    def check(self, data, k, omega, wanted):
        with self.subTest(data=data):
            self.assertEqual(len(data), omega + k)
            self.assertEqual(unpacked_hints(data, omega), wanted)
            self.assertEqual(reference.hint_rows(data, k, omega), wanted)

    def test_none(self):
        for k, omega in ((4, 80), (6, 55), (8, 75)):
            self.check([0] * (omega + k), k, omega, [[]] * k)

    def test_rows_one_after_another(self):
        self.check([3, 200, 0, 255, 0, 1, 2] + [0] * 73 + [2, 3, 4, 7], 4, 80, [[3, 200], [0], [255], [0, 1, 2]])

    def test_rows_without_any(self):
        self.check([5, 7] + [0] * 53 + [0, 1, 1, 2, 2, 2], 6, 55, [[], [5], [], [7], [], []])

    def test_place_0(self):
        self.check([0] * 75 + [1, 1, 1, 1, 1, 1, 1, 1], 8, 75, [[0]] + [[]] * 7)
        self.check([0] * 75 + [0, 0, 0, 0, 0, 0, 0, 1], 8, 75, [[]] * 7 + [[0]])
        self.check([0] * 75 + [1, 2, 3, 4, 5, 6, 7, 8], 8, 75, [[0]] * 8)
        self.check([9, 0] + [0] * 78 + [1, 2, 2, 2], 4, 80, [[9], [0], [], []])

    def test_exactly_omega(self):
        for k, omega in ((4, 80), (6, 55), (8, 75)):
            places = list(range(100, 100 + omega))
            self.check(places + [omega] * k, k, omega, [places] + [[]] * (k - 1))
            self.check(places + [0] * (k - 1) + [omega], k, omega, [[]] * (k - 1) + [places])
            self.check(places + [1] * (k - 1) + [omega], k, omega, [places[:1]] + [[]] * (k - 2) + [places[1:]])

    def test_counts_that_fall(self):
        self.check([3, 5] + [0] * 78 + [2, 1, 2, 2], 4, 80, None)
        self.check([0] * 80 + [0, 0, 1, 0], 4, 80, None)
        self.check([0] * 80 + [1, 0, 0, 0], 4, 80, None)
        self.check([1, 2, 3, 4] + [0] * 51 + [4, 4, 3, 4, 4, 4], 6, 55, None)

    def test_counts_above_omega(self):
        for k, omega in ((4, 80), (6, 55), (8, 75)):
            places = list(range(omega))
            for count in (omega + 1, omega + k, 255):
                self.check(places + [omega] * (k - 1) + [count], k, omega, None)
                self.check(places + [0] * (k - 1) + [count], k, omega, None)
                self.check(places + [count] * k, k, omega, None)
                self.check(places + [count] + [omega] * (k - 1), k, omega, None)
                self.check([0] * (omega + k - 1) + [count], k, omega, None)

    def test_places_that_do_not_rise(self):
        self.check([5, 3] + [0] * 78 + [2, 2, 2, 2], 4, 80, None)
        self.check([1, 5, 3, 9] + [0] * 76 + [0, 4, 4, 4], 4, 80, None)
        self.check([1, 255, 254] + [0] * 77 + [0, 0, 1, 3], 4, 80, None)
        self.check([7, 0] + [0] * 78 + [2, 2, 2, 2], 4, 80, None)

    def test_places_twice(self):
        self.check([3, 3] + [0] * 78 + [2, 2, 2, 2], 4, 80, None)
        self.check([0, 0] + [0] * 78 + [2, 2, 2, 2], 4, 80, None)
        self.check([1, 255, 255] + [0] * 77 + [0, 0, 0, 3], 4, 80, None)
        self.check([3, 3] + [0] * 78 + [1, 2, 2, 2], 4, 80, [[3], [3], [], []])

    def test_rest_that_is_not_0(self):
        self.check([1] + [0] * 79 + [0, 0, 0, 0], 4, 80, None)
        self.check([0] * 79 + [1] + [0, 0, 0, 0], 4, 80, None)
        self.check([3, 5, 7] + [0] * 77 + [2, 2, 2, 2], 4, 80, None)
        self.check([3, 5, 0, 255] + [0] * 76 + [2, 2, 2, 2], 4, 80, None)
        self.check(list(range(75)) + [74] * 8, 8, 75, None)

    def test_what_was_packed(self):
        rows = [[3, 200], [], [0, 255], list(range(50, 90))]
        self.assertEqual(unpacked_hints(packed_hints(rows, 80), 80), rows)

    def test_every_byte_set_to_another(self):
        data = [3, 5, 0, 9, 77, 78] + [0] * 49 + [2, 2, 4, 4, 6, 6]
        for place in range(61):
            for byte in (0, 1, 2, 4, 55, 56, 255):
                changed = data[:place] + [byte] + data[place + 1:]
                self.assertEqual(unpacked_hints(changed, 55), reference.hint_rows(changed, 6, 55))

    def test_data_stays(self):
        data = [3, 5] + [0] * 78 + [2, 1, 2, 2]
        kept = list(data)
        unpacked_hints(data, 80)
        self.assertEqual(data, kept)

    def test_rising(self):
        for places in ([], [0], [255], [0, 1], [3, 9, 255]):
            self.assertTrue(is_rising(places))
        for places in ([0, 0], [1, 0], [3, 9, 9], [9, 3, 10], [1, 2, 3, 3], [1, 2, 4, 3]):
            self.assertFalse(is_rising(places))


class Highs(unittest.TestCase):
    def test_as_the_hints_lead(self):
        for g2, count in ((95232, 44), (261888, 16)):
            step = 2 * g2
            numbers = [0, 1, Q - 1, step, step + 1, step - 1, Q - 1 - step, Q - step, Q - 2 - step]
            plain = [0, 0, 0, 1, 1, 1, count - 1, count - 1, count - 1]
            led = [count - 1, 1, count - 1, 0, 2, 0, count - 2, 0, count - 2]
            self.assertEqual(hinted_highs(numbers, [], g2), plain)
            self.assertEqual(hinted_highs(numbers, list(range(9)), g2), led)
            for place in range(9):
                wanted = plain[:place] + led[place:place + 1] + plain[place + 1:]
                self.assertEqual(hinted_highs(numbers, [place], g2), wanted)

    def test_hints_undo_a_change(self):
        for g2 in (95232, 261888):
            stream = reference.chance(f"undone {g2}", 256 * 6)
            numbers = [int.from_bytes(bytes(stream[6 * i:6 * i + 3]), "little") % Q for i in range(256)]
            changes = [int.from_bytes(bytes(stream[6 * i + 3:6 * i + 6]), "little") % g2 for i in range(256)]
            places = hint_places(numbers, changes, g2)
            self.assertTrue(places)
            wanted = [reference.parts(number + change, g2)[0] for number, change in zip(numbers, changes)]
            self.assertEqual(hinted_highs(numbers, places, g2), wanted)


if __name__ == "__main__":
    unittest.main()
