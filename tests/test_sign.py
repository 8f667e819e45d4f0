import contextlib
import hashlib
import inspect
import io
import unittest
from unittest import mock

import reference
from helpers import (
    KINDS, NO_CONTEXT_LENGTHS, NO_KINDS, NO_MESSAGE_LENGTHS, Watched, pair_from, secret_key, shake128_too_short_at,
    too_short)
from latticesign.signing import are_lengths, keys, sign

ZEROS = [0] * 32
TOPS = [255] * 32
RISING = list(range(32))
NOTHING = []
SHORT = [1, 2, 3]
EVERY_BYTE = list(range(256))

# SHA-256 of signatures that another ML-DSA (OpenSSL 4.0's) found right: kind,
# the keys' seed, message, context, chance
RIGHT_DIGESTS = (
    (44, ZEROS, NOTHING, NOTHING, ZEROS, "a16b5095839841596e3b79a9863b1b3b613b27a131e4f48c14ae16bd09337b6f"),
    (44, RISING, EVERY_BYTE, SHORT, TOPS, "5d575e32fc44add16d38341680f71cf8dda26f608ed7ff07d7d3f3725e4f9081"),
    (65, ZEROS, NOTHING, NOTHING, ZEROS, "b836cc1c743e35101f11f35058fded144ecf2701262a59a710608a0c267259b1"),
    (65, RISING, EVERY_BYTE, SHORT, TOPS, "35ae0061ec9a3c7381c3e9eb0d8657d4a4d66916049aafa58f7781718fdeb4cd"),
    (87, ZEROS, NOTHING, NOTHING, ZEROS, "27355c60013bf211ac3ef4b39b1114aa038360aeef989387dcdf39620ec1f280"),
    (87, RISING, EVERY_BYTE, SHORT, TOPS, "747c13c940c3a1e474b319d82608582fa9a192b6d9bff14e56421977ba4714b2"),
)


def signed(kind, sk, m, ctx, rnd):
    return sign(kind, len(m), len(ctx), sk, m, ctx, rnd)


def key_with_great_lows(kind, label):
    """A secret key whose last numbers are as great as they can be, so that nearly every try has too many hints."""
    rows, columns, eta = reference.FIXED[kind]
    smalls = reference.chance(label + "s", (rows + columns) * 32 * (3 if eta == 2 else 4))
    lows = reference.packed([8191 * (byte % 2) for byte in reference.chance(label, rows * 256)], 13)
    return reference.chance(label + "head", 128) + smalls + lows


def challenges_too_short(which):
    """A SHAKE256 that fails the tries with these numbers; the seed of a challenge is shorter than that of masks."""
    seeds = []

    def shake256(data, count):
        if len(data) < 66:
            if data not in seeds:
                seeds.append(data)
            if seeds.index(data) in which:
                return too_short(data, count)
        return list(hashlib.shake_256(bytes(data)).digest(count))

    return mock.patch("latticesign.drawing.shake256", shake256)


class AnswerCase(unittest.TestCase):
    def check_form(self, kind, answer):
        self.assertIs(type(answer), list)
        self.assertEqual(answer[0], reference.SIGNATURE_SIZES[kind])
        self.assertEqual(len(answer), 1 + reference.SIGNATURE_SIZES[kind])
        self.assertEqual({type(number) for number in answer}, {int})
        self.assertTrue(all(0 <= number <= 255 for number in answer[1:]))

    def check(self, kind, sk, m, ctx, rnd, times=reference.fast_product):
        """Holds the answer to the reference, and tells how often that tried."""
        with self.subTest(kind=kind, n=len(m), k=len(ctx), rnd=rnd):
            answer = signed(kind, sk, m, ctx, rnd)
            signer = reference.Signer(kind, sk, times)
            self.assertEqual(answer, signer.sign(m, ctx, rnd))
            self.check_form(kind, answer)
            return signer.tries


class Ordinary(AnswerCase):
    def test_term_by_term(self):
        for kind in KINDS:
            tries = []
            for label in ("one", "two", "three"):
                m = reference.chance("message " + label, 10 * len(label))
                ctx = reference.chance("context " + label, len(label))
                rnd = reference.chance("chance " + label, 32)
                tries.append(self.check(kind, secret_key(kind, label), m, ctx, rnd, reference.product))
            self.assertGreater(max(tries), 1)

    def test_first_try_and_later_ones(self):
        for kind in KINDS:
            tries = [self.check(kind, secret_key(kind, "key"), [label], [], ZEROS) for label in range(12)]
            self.assertEqual(min(tries), 1)
            self.assertGreater(max(tries), 4)

    def test_right_elsewhere(self):
        for kind, seed, m, ctx, rnd, digest in RIGHT_DIGESTS:
            with self.subTest(kind=kind, seed=seed):
                sk = list(pair_from(kind, tuple(seed))[1])
                answer = signed(kind, sk, m, ctx, rnd)
                self.check_form(kind, answer)
                self.assertEqual(hashlib.sha256(bytes(answer[1:])).hexdigest(), digest)

    def test_everything_counts(self):
        sk = secret_key(44, "key")
        answers = [
            signed(44, sk, [1, 2], [3], ZEROS), signed(44, sk, [1, 3], [3], ZEROS), signed(44, sk, [1, 2], [4], ZEROS),
            signed(44, sk, [1, 2], [3], ZEROS[:31] + [1]), signed(44, sk, [1, 2], [3], [1] + ZEROS[:31]),
            signed(44, sk, [2], [3, 1], ZEROS), signed(44, sk, [3, 1, 2], [], ZEROS),
            signed(44, sk, [1, 2, 0], [3], ZEROS), signed(44, secret_key(44, "another"), [1, 2], [3], ZEROS)]
        for place, answer in enumerate(answers):
            self.assertNotIn(answer, answers[:place])


class Edges(AnswerCase):
    def test_nothing_at_all(self):
        for kind in KINDS:
            for rnd in (ZEROS, TOPS):
                self.check(kind, secret_key(kind, "key"), [], [], rnd)

    def test_contexts(self):
        for kind in KINDS:
            for ctx in ([0], [255], EVERY_BYTE[:254], EVERY_BYTE[:255], [255] * 255):
                self.check(kind, secret_key(kind, "key"), [], ctx, RISING)

    def test_messages(self):
        for kind in KINDS:
            # with 69 and 70 the digest is of a block of SHAKE but for a byte, and of a whole one
            for count in (1, 69, 70, 71, 5000):
                self.check(kind, secret_key(kind, "key"), reference.chance("message", count), [], TOPS)

    def test_longest_that_is_handed_in(self):
        self.check(44, secret_key(44, "key"), [255] * 100000, [0] * 255, ZEROS)


class OddKeys(AnswerCase):
    def test_zeros(self):
        for kind in KINDS:
            for rnd in (ZEROS, TOPS):
                self.check(kind, [0] * reference.SIZES[kind][1], SHORT, [9], rnd)

    def test_tops(self):
        for kind in KINDS:
            for rnd in (ZEROS, TOPS):
                self.check(kind, [255] * reference.SIZES[kind][1], SHORT, [9], rnd)

    def test_arbitrary(self):
        for kind in KINDS:
            for label in range(4):
                sk = reference.chance(f"sk {kind} {label}", reference.SIZES[kind][1])
                self.check(kind, sk, SHORT, [9], ZEROS)

    def test_late(self):
        # masks' numbers take both of their bytes
        tries = self.check(65, key_with_great_lows(65, "all rejected 0"), [], [], ZEROS)
        self.assertGreater(5 * tries, 512)


class Wrong(unittest.TestCase):
    def check_refused(self, *handed):
        with self.subTest(handed=handed[:3]):
            answer = sign(*handed)
            self.assertIs(type(answer), list)
            self.assertEqual(answer, [-1])
            self.assertIs(type(answer[0]), int)

    def test_kind(self):
        for kind in NO_KINDS:
            self.check_refused(kind, 0, 0, [], [], [], ZEROS)
            self.check_refused(kind, 3, 2, [], [1, 2, 3], [4, 5], TOPS)

    def test_message_length(self):
        for kind in KINDS:
            for n in NO_MESSAGE_LENGTHS:
                self.check_refused(kind, n, 0, secret_key(kind, "key"), [], [], ZEROS)
                self.check_refused(kind, n, 255, secret_key(kind, "key"), [], [7] * 255, ZEROS)

    def test_context_length(self):
        for kind in KINDS:
            for k in NO_CONTEXT_LENGTHS:
                self.check_refused(kind, 0, k, secret_key(kind, "key"), [], [], ZEROS)
                self.check_refused(kind, 3, k, secret_key(kind, "key"), [1, 2, 3], [], ZEROS)

    def test_several_at_once(self):
        for kind in (0, 45, 2147483647):
            for n in NO_MESSAGE_LENGTHS:
                self.check_refused(kind, n, 0, [], [], [], ZEROS)
                for k in NO_CONTEXT_LENGTHS:
                    self.check_refused(kind, n, k, [], [], [], ZEROS)
                    self.check_refused(44, n, k, secret_key(44, "key"), [], [], ZEROS)
            for k in NO_CONTEXT_LENGTHS:
                self.check_refused(kind, 0, k, [], [], [], ZEROS)

    def test_bounds_of_the_lengths(self):
        for n, k in ((0, 0), (16777216, 255), (16777216, 0), (0, 255), (100000, 3)):
            self.assertTrue(are_lengths(n, k))
        for n, k in ((-1, 0), (16777217, 0), (0, -1), (0, 256), (16777217, 256), (-1, -1)):
            self.assertFalse(are_lengths(n, k))


class Chance(unittest.TestCase):
    def test_matrix(self):
        for kind in KINDS:
            sk = secret_key(kind, "key")
            with mock.patch("latticesign.drawing.shake128", too_short):
                self.assertEqual(signed(kind, sk, SHORT, [], ZEROS), [-2])

    def test_matrix_at_its_last_place_alone(self):
        for kind, (rows, columns, _) in reference.FIXED.items():
            sk = secret_key(kind, "key")
            with mock.patch("latticesign.drawing.shake128", shake128_too_short_at(rows - 1, columns - 1)):
                self.assertEqual(signed(kind, sk, SHORT, [], ZEROS), [-2])

    def test_challenge(self):
        for kind in KINDS:
            sk = secret_key(kind, "key")
            with challenges_too_short([0]):
                self.assertEqual(signed(kind, sk, SHORT, [], ZEROS), [-2])

    def test_challenge_of_a_later_try(self):
        for kind in KINDS:
            sk = secret_key(kind, "key")
            signer = reference.Signer(kind, sk, reference.fast_product)
            # a message whose first try is rejected
            m = next([label] for label in range(100) if signer.sign([label], [], ZEROS) and signer.tries > 1)
            wanted = signed(kind, sk, m, [], ZEROS)
            signer.sign(m, [], ZEROS)
            with challenges_too_short([signer.tries - 1]):
                self.assertEqual(signed(kind, sk, m, [], ZEROS), [-2])
            with challenges_too_short([signer.tries]):
                self.assertEqual(signed(kind, sk, m, [], ZEROS), wanted)

    def test_refused_ahead_of_that(self):
        sk = secret_key(44, "key")
        with mock.patch("latticesign.drawing.shake128", too_short):
            self.assertEqual(sign(45, 0, 0, [], [], [], ZEROS), [-1])
            self.assertEqual(sign(44, -1, 0, sk, [], [], ZEROS), [-1])
            self.assertEqual(sign(44, 0, 256, sk, [], [], ZEROS), [-1])

    def test_a_thousand_tries_rejected(self):
        sk = key_with_great_lows(44, "all rejected 0")
        self.assertEqual(signed(44, sk, [], [], ZEROS), [-2])
        signer = reference.Signer(44, sk, reference.fast_product)
        self.assertEqual(signer.sign([], [], ZEROS), [-2])
        self.assertEqual(signer.tries, 1000)

    def test_every_try_rejected_for_each_kind(self):
        for kind in KINDS:
            sk = secret_key(kind, "key")
            with mock.patch("latticesign.signaturemaking.tried", lambda *handed: None), \
                    mock.patch("latticesign.signaturemaking.mask_polynomials", lambda *handed: None):
                self.assertEqual(signed(kind, sk, [], [], ZEROS), [-2])


class Calls(unittest.TestCase):
    def test_names_of_the_arguments(self):
        names = ["kind", "n", "k", "sk", "m", "ctx", "rnd"]
        self.assertEqual(list(inspect.signature(sign).parameters), names)
        sk = secret_key(44, "key")
        named = sign(kind=44, n=3, k=1, sk=sk, m=SHORT, ctx=[9], rnd=RISING)
        self.assertEqual(named, sign(44, 3, 1, sk, SHORT, [9], RISING))

    def handed(self, kind):
        sk = secret_key(kind, "key") if kind in KINDS else []
        return [sk, reference.chance("m", 40), reference.chance("ctx", 20), reference.chance("rnd", 32)]

    def test_lists_stay(self):
        for kind in KINDS + (0,):
            lists = self.handed(kind)
            kept = [list(one) for one in lists]
            same = list(lists)
            sign(kind, 40, 20, *lists)
            self.assertEqual(lists, kept)
            for one, other in zip(lists, same):
                self.assertIs(one, other)

    def test_lists_are_not_changed_for_a_while(self):
        for kind in KINDS + (0,):
            lists = self.handed(kind)
            watched = [Watched(one) for one in lists]
            self.assertEqual(sign(kind, 40, 20, *watched), sign(kind, 40, 20, *lists))

    def test_lists_stay_when_refused(self):
        sk = Watched(secret_key(44, "key"))
        with mock.patch("latticesign.drawing.shake128", too_short):
            self.assertEqual(sign(44, 1, 1, sk, Watched([1]), Watched([2]), Watched(ZEROS)), [-2])

    def test_second_call_answers_as_the_first(self):
        for kind in KINDS:
            lists = self.handed(kind)
            first = sign(kind, 40, 20, *lists)
            kept = list(first)
            first.reverse()
            first.append(-1)
            sign(65, 0, 0, secret_key(65, "another"), [], [], TOPS)
            sign(0, 0, 0, [], [], [], TOPS)
            keys(44, TOPS)
            self.assertEqual(sign(kind, 40, 20, *lists), kept)

    def test_keys_stay_as_they_are(self):
        for kind in KINDS:
            before = keys(kind, RISING)
            signed(kind, before[1 + reference.SIZES[kind][0]:], SHORT, [], ZEROS)
            self.assertEqual(keys(kind, RISING), before)

    def test_refusals_are_new_each_time(self):
        sign(0, 0, 0, [], [], [], ZEROS).append(5)
        self.assertEqual(sign(0, 0, 0, [], [], [], ZEROS), [-1])
        sk = secret_key(44, "key")
        with mock.patch("latticesign.drawing.shake128", too_short):
            signed(44, sk, [], [], ZEROS).append(5)
            self.assertEqual(signed(44, sk, [], [], ZEROS), [-2])
        self.assertEqual(signed(44, sk, [], [], ZEROS)[0], 2420)

    def test_prints_nothing(self):
        out = io.StringIO()
        with contextlib.redirect_stdout(out), contextlib.redirect_stderr(out):
            signed(44, secret_key(44, "key"), SHORT, [], ZEROS)
            sign(0, 0, 0, [], [], [], ZEROS)
        self.assertEqual(out.getvalue(), "")


if __name__ == "__main__":
    unittest.main()
