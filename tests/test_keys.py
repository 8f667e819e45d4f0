import contextlib
import hashlib
import inspect
import io
import unittest
from unittest import mock

import reference
from helpers import NO_KINDS, Watched, shake128_too_short_at, too_short
from latticesign.signing import keys

ZEROS = [0] * 32
TOPS = [255] * 32
RISING = list(range(32))
FALLING = list(range(255, 223, -1))

# SHA-256 of pk as another ML-DSA (OpenSSL 4.0's) makes it
PK_DIGESTS = (
    (44, ZEROS, "eb4e7302842153b0fa19e8620739ad258af4929c26dd89079a7ec7d4282208e1"),
    (44, TOPS, "62c4f1b3164db7fa896a3343e900eb3e13c9f76de122020feba37ee063d49ef0"),
    (44, RISING, "9f107644c1084526af3bc8098680b05499a2325a644e388fb4f970e058d19d46"),
    (44, FALLING, "ab63227c014a55201f68dbdb7a4ecc3e669f736515549713fb003560278c9515"),
    (65, ZEROS, "085ba380ff386dd52e42349c6eb88489d6058ea541a4e3fb0dce9a3fd1f7a911"),
    (65, TOPS, "accc50ec0bce614855e62e04741f54367add7a6ec074db7369f7484e6067e224"),
    (65, RISING, "d666806e11cee19a7c989f7445f90dd419cf4d2d51db8c0fdb4c0f0a542238c9"),
    (65, FALLING, "7c86aaf483ee7a8739bf10d7d0e5e129236aadc20d2fd7551f5eaaeda5745bd5"),
    (87, ZEROS, "1d4a461707fc50a7ec93a9c02454778a8b82321ca460eea345e7bbfaff38a3aa"),
    (87, TOPS, "ecc28bd43ae792d533a36b66ac04d28cfb299b692ca400506e8b586234279c15"),
    (87, RISING, "91dc389cfaa01470b7f66eee45a4ae9026d154817c754dfe22298b3fa241ffcd"),
    (87, FALLING, "ca1dbeb6d2a0e6c2fde757889f82ea8d46ffd0c9f933653b6c0e1248612b6cd1"),
)


class Answers(unittest.TestCase):
    def test_as_the_document_is_worked_out(self):
        for kind in (44, 65, 87):
            for seed in (ZEROS, TOPS, reference.chance("seed one", 32), reference.chance("seed two", 32)):
                with self.subTest(kind=kind, seed=seed):
                    self.assertEqual(keys(kind, seed), reference.keys(kind, seed))

    def test_public_keys_made_elsewhere(self):
        for kind, seed, digest in PK_DIGESTS:
            with self.subTest(kind=kind, seed=seed):
                pk = keys(kind, seed)[1:1 + reference.SIZES[kind][0]]
                self.assertEqual(hashlib.sha256(bytes(pk)).hexdigest(), digest)

    def test_form(self):
        for kind, sizes in reference.SIZES.items():
            for seed in (ZEROS, TOPS):
                with self.subTest(kind=kind, seed=seed):
                    answer = keys(kind, seed)
                    self.assertIs(type(answer), list)
                    self.assertEqual(len(answer), 1 + sizes[0] + sizes[1])
                    self.assertEqual(answer[0], 0)
                    self.assertEqual({type(number) for number in answer}, {int})
                    self.assertTrue(all(0 <= number <= 255 for number in answer[1:]))

    def test_what_the_keys_share(self):
        for kind, sizes in reference.SIZES.items():
            answer = keys(kind, RISING)
            pk = answer[1:1 + sizes[0]]
            sk = answer[1 + sizes[0]:]
            self.assertEqual(sk[:32], pk[:32])
            self.assertEqual(sk[64:128], list(hashlib.shake_256(bytes(pk)).digest(64)))

    def test_every_byte_of_the_seed_counts(self):
        plain = keys(44, ZEROS)
        for place in (0, 31):
            self.assertNotEqual(keys(44, [1 if i == place else 0 for i in range(32)]), plain)


class Refusals(unittest.TestCase):
    def test_kind_is_none(self):
        for kind in NO_KINDS:
            for seed in (ZEROS, TOPS):
                with self.subTest(kind=kind):
                    answer = keys(kind, seed)
                    self.assertEqual(answer, [-1])
                    self.assertIs(type(answer), list)
                    self.assertIs(type(answer[0]), int)

    def test_chance_does_not_suffice(self):
        for name in ("shake128", "shake256"):
            with mock.patch(f"latticesign.drawing.{name}", too_short):
                for kind in (44, 65, 87):
                    with self.subTest(name=name, kind=kind):
                        self.assertEqual(keys(kind, ZEROS), [-2])

    def test_kind_is_looked_at_first(self):
        with mock.patch("latticesign.drawing.shake128", too_short):
            for kind in NO_KINDS:
                self.assertEqual(keys(kind, ZEROS), [-1])

    def test_fewer_at_the_last_place_alone(self):
        for kind, (rows, columns, _) in reference.FIXED.items():
            with mock.patch("latticesign.drawing.shake128", shake128_too_short_at(rows - 1, columns - 1)):
                self.assertEqual(keys(kind, ZEROS), [-2])

    def test_fewer_small_ones_at_the_last_number_alone(self):
        for kind, (rows, columns, _) in reference.FIXED.items():
            def short_at_last(data, count):
                if data[64:] == [rows + columns - 1, 0]:
                    return [255] * count
                return list(hashlib.shake_256(bytes(data)).digest(count))
            with mock.patch("latticesign.drawing.shake256", short_at_last):
                self.assertEqual(keys(kind, ZEROS), [-2])


class Calls(unittest.TestCase):
    def test_names_of_the_arguments(self):
        self.assertEqual(list(inspect.signature(keys).parameters), ["kind", "seed"])
        self.assertEqual(keys(kind=44, seed=ZEROS), keys(44, ZEROS))

    def test_seed_stays(self):
        for kind in (44, 65, 87, 0):
            seed = reference.chance("stays", 32)
            kept = list(seed)
            keys(kind, seed)
            self.assertEqual(seed, kept)

    def test_seed_is_not_changed_for_a_while(self):
        for kind in (44, 65, 87, 0):
            self.assertEqual(keys(kind, Watched(RISING)), keys(kind, RISING))

    def test_second_call_answers_as_the_first(self):
        for kind in (44, 65, 87):
            first = keys(kind, RISING)
            kept = list(first)
            first.reverse()
            first.append(-1)
            keys(65, FALLING)
            keys(0, FALLING)
            self.assertEqual(keys(kind, RISING), kept)

    def test_refusals_are_new_each_time(self):
        keys(0, ZEROS).append(5)
        self.assertEqual(keys(0, ZEROS), [-1])
        with mock.patch("latticesign.drawing.shake128", too_short):
            keys(44, ZEROS).append(5)
            self.assertEqual(keys(44, ZEROS), [-2])
        self.assertEqual(keys(44, ZEROS)[0], 0)

    def test_prints_nothing(self):
        out = io.StringIO()
        with contextlib.redirect_stdout(out), contextlib.redirect_stderr(out):
            keys(44, ZEROS)
            keys(0, ZEROS)
        self.assertEqual(out.getvalue(), "")


if __name__ == "__main__":
    unittest.main()
