import contextlib
import functools
import inspect
import io
import unittest
from unittest import mock

import reference
from helpers import (
    KINDS, NO_CONTEXT_LENGTHS, NO_KINDS, NO_MESSAGE_LENGTHS, Watched, public_key, secret_key, shake128_too_short_at,
    too_short)
from latticesign.signing import check, is_signature_length, keys, sign

ZEROS = [0] * 32
TOPS = [255] * 32
SHORT = [1, 2, 3]
CONTEXT = [9, 8]
NO_SIGNATURE_LENGTHS = (-2147483648, -1, 16777217, 2147483647)


def checked(kind, pk, m, ctx, sig):
    return check(kind, len(m), len(ctx), len(sig), pk, m, ctx, sig)


@functools.lru_cache(maxsize=None)
def signature_from(kind, label, m, ctx, rnd):
    return tuple(sign(kind, len(m), len(ctx), secret_key(kind, label), list(m), list(ctx), list(rnd))[1:])


def signature(kind, label="key", m=SHORT, ctx=CONTEXT, rnd=ZEROS):
    return list(signature_from(kind, label, tuple(m), tuple(ctx), tuple(rnd)))


def with_byte(data, place, byte):
    return data[:place] + [byte] + data[place + 1:]


def hints_start(kind):
    rows, omega = reference.FIXED[kind][0], reference.SIGNING[kind][4]
    return reference.SIGNATURE_SIZES[kind] - omega - rows


def open_key(kind):
    """A public key whose t1 is all zeros, so that right signatures can be made without a secret one."""
    return reference.chance(f"open {kind}", 32) + [0] * (reference.SIZES[kind][0] - 32)


def some_z(kind, label):
    columns = reference.FIXED[kind][1]
    limit = reference.SIGNING[kind][1] - reference.SIGNING[kind][3]
    stream = bytes(reference.chance(label, 768 * columns))
    return [int.from_bytes(stream[i:i + 3], "little") % (2 * limit - 1) - limit + 1 for i in range(0, len(stream), 3)]


def hint_bytes(rows, omega):
    places = [place for row in rows for place in row]
    ends = [sum(len(one) for one in rows[:r + 1]) for r in range(len(rows))]
    return places + [0] * (omega - len(places)) + ends


class CheckCase(unittest.TestCase):
    def hold(self, kind, pk, m, ctx, sig, wanted, times=reference.fast_product):
        """The answer is the wanted one, and the document worked out elsewhere wants it too."""
        with self.subTest(kind=kind, n=len(m), k=len(ctx), length=len(sig)):
            answer = checked(kind, pk, m, ctx, sig)
            self.assertIs(type(answer), list)
            self.assertEqual(answer, [wanted])
            self.assertIs(type(answer[0]), int)
            self.assertEqual(reference.Checker(kind, pk, times).check(m, ctx, sig), [wanted])


class Ordinary(CheckCase):
    def test_term_by_term(self):
        for kind in KINDS:
            for label in ("one", "two"):
                m = reference.chance("message " + label, 50)
                ctx = reference.chance("context " + label, 7)
                sig = signature(kind, label, m, ctx, reference.chance("chance " + label, 32))
                self.hold(kind, public_key(kind, label), m, ctx, sig, 1, reference.product)
                self.hold(kind, public_key(kind, label), m[:-1], ctx, sig, 0, reference.product)

    def test_right(self):
        for kind in KINDS:
            for label in range(8):
                m = reference.chance(f"m {label}", 3 ** label)
                ctx = reference.chance(f"ctx {label}", 30 * label)
                sig = signature(kind, "key", m, ctx, [label] * 32)
                self.hold(kind, public_key(kind, "key"), m, ctx, sig, 1)

    def test_keys_made_elsewhere(self):
        for kind in KINDS:
            made = reference.keys(kind, [5] * 32)[1:]
            pk, sk = made[:reference.SIZES[kind][0]], made[reference.SIZES[kind][0]:]
            sig = reference.Signer(kind, sk, reference.fast_product).sign(SHORT, CONTEXT, TOPS)[1:]
            self.hold(kind, pk, SHORT, CONTEXT, sig, 1)

    def test_another_message(self):
        for kind in KINDS:
            pk, sig = public_key(kind, "key"), signature(kind)
            for m in ([], [1, 2], [1, 2, 4], [0, 2, 3], [1, 2, 3, 0], [0, 1, 2, 3], [3, 2, 1]):
                self.hold(kind, pk, m, CONTEXT, sig, 0)

    def test_another_context(self):
        for kind in KINDS:
            pk, sig = public_key(kind, "key"), signature(kind)
            for ctx in ([], [9], [9, 7], [8, 8], [9, 8, 0], [9, 8] + [0] * 253):
                self.hold(kind, pk, SHORT, ctx, sig, 0)
            # the same bytes, parted otherwise
            self.hold(kind, pk, [8] + SHORT, [9], sig, 0)
            self.hold(kind, pk, [2, 3], CONTEXT + [1], sig, 0)

    def test_another_public_key(self):
        for kind in KINDS:
            pk, sig = public_key(kind, "key"), signature(kind)
            self.hold(kind, public_key(kind, "another"), SHORT, CONTEXT, sig, 0)
            for place in (0, 31, 32, 33, len(pk) - 1):
                self.hold(kind, with_byte(pk, place, pk[place] ^ 1), SHORT, CONTEXT, sig, 0)

    def test_key_and_signature_of_another_pair(self):
        for kind in KINDS:
            sig = signature(kind, "another")
            self.hold(kind, public_key(kind, "another"), SHORT, CONTEXT, sig, 1)
            self.hold(kind, public_key(kind, "key"), SHORT, CONTEXT, sig, 0)


class OneByteChanged(CheckCase):
    def hold_changed(self, kind, places, changes=(1, 128)):
        pk, sig = public_key(kind, "key"), signature(kind)
        for place in places:
            for change in changes:
                self.hold(kind, pk, SHORT, CONTEXT, with_byte(sig, place, sig[place] ^ change), 0)

    def test_e(self):
        for kind in KINDS:
            count = reference.SIGNING[kind][5]
            self.hold_changed(kind, (0, 1, count // 2, count - 1))

    def test_z(self):
        for kind in KINDS:
            start, end = reference.SIGNING[kind][5], hints_start(kind)
            self.hold_changed(kind, (start, start + 1, start + 700, end - 2, end - 1))

    def test_places(self):
        for kind in KINDS:
            start, used = hints_start(kind), signature(kind)[-1]
            self.assertGreater(used, 3)
            self.hold_changed(kind, (start, start + used // 2, start + used - 1), (1, 2, 255))

    def test_zeros(self):
        for kind in KINDS:
            start, used, omega = hints_start(kind), signature(kind)[-1], reference.SIGNING[kind][4]
            self.assertLess(used, omega - 3)
            self.hold_changed(kind, (start + used, start + used + 1, start + omega - 1), (1, 255))

    def test_counts(self):
        for kind in KINDS:
            pk, sig = public_key(kind, "key"), signature(kind)
            for place in range(len(sig) - reference.FIXED[kind][0], len(sig)):
                for byte in {0, sig[place] - 1, sig[place] + 1, reference.SIGNING[kind][4] + 1, 255} - {sig[place]}:
                    if byte >= 0:
                        self.hold(kind, pk, SHORT, CONTEXT, with_byte(sig, place, byte), 0)

    def test_places_changed_for_others_that_rise(self):
        for kind in KINDS:
            pk, sig, start = public_key(kind, "key"), signature(kind), hints_start(kind)
            row = sig[start:start + sig[-reference.FIXED[kind][0]]]
            free = next(place for place in range(256) if place not in row)
            changed = sorted(row[1:] + [free])
            self.assertNotEqual(changed, row)
            self.hold(kind, pk, SHORT, CONTEXT, sig[:start] + changed + sig[start + len(row):], 0)


class MadeWithoutASecret(CheckCase):
    """Signatures whose e fits all the rest, so that the answer hangs on the one thing that is tried."""

    def hold_hints(self, kind, rows, packed, wanted):
        checker = reference.Checker(kind, open_key(kind), reference.fast_product)
        sig = checker.forged(some_z(kind, "hints"), rows, packed, SHORT, CONTEXT)
        self.hold(kind, open_key(kind), SHORT, CONTEXT, sig, wanted)

    def hold_z(self, kind, place, number, wanted):
        checker = reference.Checker(kind, open_key(kind), reference.fast_product)
        z = with_byte(some_z(kind, "z"), place, number)
        none = [[]] * checker.k
        sig = checker.forged(z, none, hint_bytes(none, reference.SIGNING[kind][4]), SHORT, CONTEXT)
        self.hold(kind, open_key(kind), SHORT, CONTEXT, sig, wanted)

    def test_magnitudes(self):
        for kind in KINDS:
            _, g1, _, beta, _, _ = reference.SIGNING[kind]
            for place in (0, 256 * reference.FIXED[kind][1] - 1):
                for sign_of in (1, -1):
                    self.hold_z(kind, place, sign_of * (g1 - beta - 1), 1)
                    self.hold_z(kind, place, sign_of * (g1 - beta), 0)
                    self.hold_z(kind, place, sign_of * (g1 - beta + 1), 0)
                self.hold_z(kind, place, 0, 1)
                self.hold_z(kind, place, g1, 0)
                self.hold_z(kind, place, 1 - g1, 0)

    def test_no_hints(self):
        for kind in KINDS:
            rows, omega = reference.FIXED[kind][0], reference.SIGNING[kind][4]
            self.hold_hints(kind, [[]] * rows, [0] * (omega + rows), 1)

    def test_exactly_omega(self):
        for kind in KINDS:
            k, omega = reference.FIXED[kind][0], reference.SIGNING[kind][4]
            for first in (0, omega, omega // 2):
                rows = [list(range(first))] + [[]] * (k - 2) + [list(range(256 - omega + first, 256))]
                self.hold_hints(kind, rows, hint_bytes(rows, omega), 1)

    def test_rows_with_and_without(self):
        for kind in KINDS:
            k, omega = reference.FIXED[kind][0], reference.SIGNING[kind][4]
            for rows in ([[200]] + [[]] * (k - 1), [[]] * (k - 1) + [[0]], [[5], [0, 255]] + [[]] * (k - 3) + [[7]],
                         [[0]] * k, [[255]] * k, [[], [254, 255], []] + [[0, 1]] * (k - 3)):
                self.hold_hints(kind, rows, hint_bytes(rows, omega), 1)

    def test_hints_that_e_does_not_know(self):
        for kind in KINDS:
            k, omega = reference.FIXED[kind][0], reference.SIGNING[kind][4]
            rows = [[5, 9]] + [[]] * (k - 1)
            for others in ([[5]] + [[]] * (k - 1), [[5, 10]] + [[]] * (k - 1), [[], [5, 9]] + [[]] * (k - 2)):
                self.hold_hints(kind, rows, hint_bytes(others, omega), 0)

    def test_counts_that_fall(self):
        for kind in KINDS:
            k, omega = reference.FIXED[kind][0], reference.SIGNING[kind][4]
            none = [[]] * (k - 3)
            places = [3, 5] + [0] * (omega - 2)
            self.hold_hints(kind, [[3, 5], [], [5]] + none, places + [2, 1] + [2] * (k - 2), 0)
            self.hold_hints(kind, [[3, 5], [], []] + none, places + [2, 1] + [2] * (k - 2), 0)
            self.hold_hints(kind, none + [[], [0], []], [0] * omega + [0] * (k - 2) + [1, 0], 0)
            self.hold_hints(kind, [[0], [], []] + none, [0] * omega + [1] + [0] * (k - 1), 0)

    def test_counts_above_omega(self):
        for kind in KINDS:
            k, omega = reference.FIXED[kind][0], reference.SIGNING[kind][4]
            places = list(range(omega))
            # beyond the places a lenient reader finds the counts, or nothing
            for last in ([omega], []):
                self.hold_hints(kind, [places] + [[]] * (k - 2) + [last], places + [omega] * (k - 1) + [omega + 1], 0)
            for last in (places + [0], places):
                self.hold_hints(kind, [[]] * (k - 1) + [last], places + [0] * (k - 1) + [omega + 1], 0)
                self.hold_hints(kind, [[]] * (k - 1) + [last], places + [0] * (k - 1) + [255], 0)
            self.hold_hints(kind, [places] + [[]] * (k - 1), places + [omega + 1] + [omega] * (k - 1), 0)

    def test_places_that_do_not_rise(self):
        for kind in KINDS:
            k, omega = reference.FIXED[kind][0], reference.SIGNING[kind][4]
            rows = [[3, 5]] + [[]] * (k - 1)
            self.hold_hints(kind, rows, hint_bytes(rows, omega), 1)
            self.hold_hints(kind, rows, [5, 3] + [0] * (omega - 2) + [2] * k, 0)
            rows = [[]] * (k - 1) + [[0, 7, 9]]
            self.hold_hints(kind, rows, hint_bytes(rows, omega), 1)
            self.hold_hints(kind, rows, [0, 9, 7] + [0] * (omega - 3) + [0] * (k - 1) + [3], 0)
            self.hold_hints(kind, rows, [7, 9, 0] + [0] * (omega - 3) + [0] * (k - 1) + [3], 0)

    def test_places_twice(self):
        for kind in KINDS:
            k, omega = reference.FIXED[kind][0], reference.SIGNING[kind][4]
            for place in (0, 3, 255):
                for rows in ([[place]] + [[]] * (k - 1), [[]] * k):
                    self.hold_hints(kind, rows, [place, place] + [0] * (omega - 2) + [2] * k, 0)

    def test_rest_that_is_not_0(self):
        for kind in KINDS:
            k, omega = reference.FIXED[kind][0], reference.SIGNING[kind][4]
            rows = [[3], [5]] + [[]] * (k - 2)
            right = hint_bytes(rows, omega)
            self.hold_hints(kind, rows, right, 1)
            for place in (2, 3, omega - 1):
                for byte in (1, 255):
                    self.hold_hints(kind, rows, with_byte(right, place, byte), 0)
            nearly = [list(range(omega - 1))] + [[]] * (k - 1)
            self.hold_hints(kind, nearly, with_byte(hint_bytes(nearly, omega), omega - 1, 255), 0)

    def test_small_numbers_in_the_key(self):
        for kind in KINDS:
            rows = reference.FIXED[kind][0]
            # 8192 times 1022 is -8193 modulo q
            for t1 in ([1] + [0] * 199 + [2] + [0] * 55, [0] * 255 + [1], [0] * 100 + [1022, 1] + [0] * 154):
                pk = open_key(kind)[:32] + reference.packed(t1 * rows, 10)
                sig = reference.Checker(kind, pk, reference.fast_product).forged_with_hints(
                    some_z(kind, "small"), SHORT, CONTEXT)
                self.assertGreater(sig[-1], 0)
                self.hold(kind, pk, SHORT, CONTEXT, sig, 1)
                self.hold(kind, pk, SHORT, CONTEXT, sig[:hints_start(kind)] + [0] * (len(sig) - hints_start(kind)), 0)


class Edges(CheckCase):
    def test_messages_and_contexts(self):
        for kind in KINDS:
            for m, ctx in (([], []), ([], [7]), ([7], []), ([], [0] * 255), ([], list(range(255))), ([0], [255] * 255),
                           (reference.chance("long", 5000), [])):
                self.hold(kind, public_key(kind, "key"), m, ctx, signature(kind, "key", m, ctx), 1)
                self.hold(kind, public_key(kind, "key"), m + [0], ctx, signature(kind, "key", m, ctx), 0)

    def test_nothing_is_not_a_zero(self):
        for kind in KINDS:
            pk, sig = public_key(kind, "key"), signature(kind, "key", [], [])
            self.hold(kind, pk, [0], [], sig, 0)
            self.hold(kind, pk, [], [0], sig, 0)

    def test_longest_that_is_handed_in(self):
        m, ctx = [255] * 100000, [0] * 255
        sig = signature(44, "key", m, ctx)
        self.hold(44, public_key(44, "key"), m, ctx, sig, 1)
        self.hold(44, public_key(44, "key"), m[1:], ctx, sig, 0)
        self.hold(44, public_key(44, "key"), m, ctx, [255] * 100000, 0)

    def test_lengths(self):
        for kind in KINDS:
            pk, sig = public_key(kind, "key"), signature(kind)
            for other in ([], [0], sig[:1], sig[:-1], sig[1:], sig + [0], sig + sig[-1:], [0] + sig, sig + sig):
                self.hold(kind, pk, SHORT, CONTEXT, other, 0)

    def test_lengths_of_other_kinds(self):
        for kind in KINDS:
            for other in KINDS:
                if other != kind:
                    self.hold(kind, public_key(kind, "key"), SHORT, CONTEXT, signature(other), 0)
                    size = reference.SIGNATURE_SIZES[other]
                    self.hold(kind, public_key(kind, "key"), SHORT, CONTEXT, (signature(kind) + [0] * size)[:size], 0)


class Odd(CheckCase):
    def odd(self, label, count):
        return reference.chance(label, count), [0] * count, [255] * count

    def test_keys_and_signatures(self):
        for kind in KINDS:
            for pk in self.odd(f"pk {kind}", reference.SIZES[kind][0]):
                for sig in self.odd(f"sig {kind}", reference.SIGNATURE_SIZES[kind]) + (signature(kind),):
                    self.hold(kind, pk, SHORT, CONTEXT, sig, 0)

    def test_signatures_with_a_good_key(self):
        for kind in KINDS:
            for sig in self.odd(f"sig {kind}", reference.SIGNATURE_SIZES[kind]):
                self.hold(kind, public_key(kind, "key"), SHORT, CONTEXT, sig, 0)

    def test_signatures_but_for_z_and_hints(self):
        for kind in KINDS:
            rows, omega = reference.FIXED[kind][0], reference.SIGNING[kind][4]
            for pk in self.odd(f"pk {kind}", reference.SIZES[kind][0]):
                for e in self.odd(f"e {kind}", reference.SIGNING[kind][5]):
                    sig = reference.Checker(kind, pk).put_together(e, some_z(kind, "odd"), [0] * (omega + rows))
                    self.hold(kind, pk, SHORT, CONTEXT, sig, 0)

    def test_right_for_keys_of_zeros_and_of_255s(self):
        for kind in KINDS:
            for byte in (0, 255):
                pk = [byte] * reference.SIZES[kind][0]
                checker = reference.Checker(kind, pk, reference.fast_product)
                sig = checker.forged_with_hints(some_z(kind, "odd"), SHORT, CONTEXT)
                self.hold(kind, pk, SHORT, CONTEXT, sig, 1)
                self.hold(kind, pk, SHORT + [0], CONTEXT, sig, 0)


class Wrong(unittest.TestCase):
    def hold_refused(self, *handed):
        with self.subTest(handed=handed[:4]):
            answer = check(*handed)
            self.assertIs(type(answer), list)
            self.assertEqual(answer, [-1])
            self.assertIs(type(answer[0]), int)

    def test_kind(self):
        for kind in NO_KINDS:
            self.hold_refused(kind, 0, 0, 0, [], [], [], [])
            self.hold_refused(kind, 3, 2, 4, [], SHORT, CONTEXT, [1, 2, 3, 4])
            for other in KINDS:
                self.hold_refused(kind, 3, 2, reference.SIGNATURE_SIZES[other], [], SHORT, CONTEXT, signature(other))

    def test_message_length(self):
        for kind in KINDS:
            for n in NO_MESSAGE_LENGTHS:
                sig = signature(kind)
                self.hold_refused(kind, n, 0, len(sig), public_key(kind, "key"), [], [], sig)
                self.hold_refused(kind, n, 2, len(sig), public_key(kind, "key"), [], CONTEXT, sig)

    def test_context_length(self):
        for kind in KINDS:
            for k in NO_CONTEXT_LENGTHS:
                sig = signature(kind)
                self.hold_refused(kind, 0, k, len(sig), public_key(kind, "key"), [], [], sig)
                self.hold_refused(kind, 3, k, len(sig), public_key(kind, "key"), SHORT, [], sig)

    def test_signature_length(self):
        for kind in KINDS:
            for the_len in NO_SIGNATURE_LENGTHS:
                self.hold_refused(kind, 0, 0, the_len, public_key(kind, "key"), [], [], [])
                self.hold_refused(kind, 3, 2, the_len, public_key(kind, "key"), SHORT, CONTEXT, [])

    def test_several_at_once(self):
        for n in NO_MESSAGE_LENGTHS:
            for k in NO_CONTEXT_LENGTHS:
                self.hold_refused(44, n, k, 2420, public_key(44, "key"), [], [], signature(44))
                for the_len in NO_SIGNATURE_LENGTHS:
                    self.hold_refused(44, n, k, the_len, public_key(44, "key"), [], [], [])
                    self.hold_refused(45, n, k, the_len, [], [], [], [])
        for the_len in NO_SIGNATURE_LENGTHS:
            self.hold_refused(0, 0, 0, the_len, [], [], [], [])
            self.hold_refused(65, -1, 0, the_len, public_key(65, "key"), [], [], [])
            self.hold_refused(65, 0, 256, the_len, public_key(65, "key"), [], [], [])

    def test_with_a_length_that_is_not_the_kinds(self):
        for kind in KINDS:
            pk = public_key(kind, "key")
            for sig in ([], [5], signature(kind)[:-1], signature(kind) + [0]):
                for n in NO_MESSAGE_LENGTHS:
                    self.hold_refused(kind, n, 2, len(sig), pk, [], CONTEXT, sig)
                for k in NO_CONTEXT_LENGTHS:
                    self.hold_refused(kind, 3, k, len(sig), pk, SHORT, [], sig)
                self.hold_refused(kind + 1, 3, 2, len(sig), [], SHORT, CONTEXT, sig)

    def test_bounds_of_the_length(self):
        for the_len in (0, 1, 2420, 100000, 16777215, 16777216):
            self.assertTrue(is_signature_length(the_len))
        for the_len in NO_SIGNATURE_LENGTHS:
            self.assertFalse(is_signature_length(the_len))


class Chance(unittest.TestCase):
    def wrong_ones(self, kind):
        """Signatures of the kind's length: right, with another e, with z too large, with hints packed badly."""
        sig, count = signature(kind), reference.SIGNING[kind][5]
        large = sig[:count] + [0] * 32 + sig[count + 32:]
        return sig, with_byte(sig, 0, sig[0] ^ 1), large, with_byte(sig, len(sig) - 1, 255), [255] * len(sig)

    def hold_short(self, kind, name, shake):
        pk, sigs = public_key(kind, "key"), self.wrong_ones(kind)
        for sig in sigs:
            with mock.patch(f"latticesign.drawing.{name}", shake):
                answer = checked(kind, pk, SHORT, CONTEXT, sig)
            self.assertIs(type(answer), list)
            self.assertEqual(answer, [-2])
            self.assertEqual(checked(kind, pk, SHORT, CONTEXT, sig), [1 if sig == sigs[0] else 0])

    def test_matrix(self):
        for kind in KINDS:
            self.hold_short(kind, "shake128", too_short)

    def test_matrix_at_its_last_place_alone(self):
        for kind, (rows, columns, _) in reference.FIXED.items():
            self.hold_short(kind, "shake128", shake128_too_short_at(rows - 1, columns - 1))

    def test_challenge(self):
        for kind in KINDS:
            self.hold_short(kind, "shake256", too_short)

    def test_one_number_too_few(self):
        for kind in KINDS:
            pk, sig = public_key(kind, "key"), signature(kind)
            tau = reference.SIGNING[kind][0]
            for count, wanted in ((tau, [0]), (tau - 1, [-2])):
                # as many places as told at the end of the bytes; those ahead are too great for all but the last
                def shake256(data, length):
                    return ([0] * 8 + [255] * (1088 - count) + [0] * count)[:length]
                with mock.patch("latticesign.drawing.shake256", shake256):
                    self.assertEqual(checked(kind, pk, SHORT, CONTEXT, sig), wanted)

    def test_refused_ahead_of_that(self):
        pk, sig = public_key(44, "key"), signature(44)
        with mock.patch("latticesign.drawing.shake128", too_short), \
                mock.patch("latticesign.drawing.shake256", too_short):
            self.assertEqual(check(45, 3, 2, 2420, [], SHORT, CONTEXT, sig), [-1])
            self.assertEqual(check(44, -1, 2, 2420, pk, [], CONTEXT, sig), [-1])
            self.assertEqual(check(44, 3, 256, 2420, pk, SHORT, [], sig), [-1])
            self.assertEqual(check(44, 3, 2, -1, pk, SHORT, CONTEXT, []), [-1])
            for other in ([], sig[1:], sig + [0], [0] * 3309):
                self.assertEqual(checked(44, pk, SHORT, CONTEXT, other), [0])
            self.assertEqual(checked(44, pk, SHORT, CONTEXT, sig), [-2])


class Calls(unittest.TestCase):
    def test_names_of_the_arguments(self):
        names = ["kind", "n", "k", "the_len", "pk", "m", "ctx", "sig"]
        self.assertEqual(list(inspect.signature(check).parameters), names)
        pk, sig = public_key(44, "key"), signature(44)
        self.assertEqual(check(kind=44, n=3, k=2, the_len=2420, pk=pk, m=SHORT, ctx=CONTEXT, sig=sig), [1])

    def handed(self, kind):
        pk = public_key(kind, "key") if kind in KINDS else []
        sig = signature(kind) if kind in KINDS else [1, 2, 3, 4]
        return [pk, list(SHORT), list(CONTEXT), sig]

    def changed(self, kind):
        pk, m, ctx, sig = self.handed(kind)
        return [[pk, m, ctx, sig], [pk, [1, 2, 4], ctx, sig], [pk, m, ctx, sig[:-1]],
                [pk, m, ctx, with_byte(sig, 0, sig[0] ^ 1)], [pk, m, ctx, with_byte(sig, len(sig) - 1, 255)]]

    def test_lists_stay(self):
        for kind in KINDS + (0,):
            for lists in self.changed(kind):
                kept = [list(one) for one in lists]
                same = list(lists)
                check(kind, 3, 2, len(lists[3]), *lists)
                self.assertEqual(lists, kept)
                for one, other in zip(lists, same):
                    self.assertIs(one, other)

    def test_lists_are_not_changed_for_a_while(self):
        for kind in KINDS + (0,):
            for lists in self.changed(kind):
                watched = [Watched(one) for one in lists]
                wanted = check(kind, 3, 2, len(lists[3]), *lists)
                self.assertEqual(check(kind, 3, 2, len(lists[3]), *watched), wanted)

    def test_lists_stay_when_refused(self):
        watched = [Watched(one) for one in self.handed(44)]
        for name in ("shake128", "shake256"):
            with mock.patch(f"latticesign.drawing.{name}", too_short):
                self.assertEqual(check(44, 3, 2, 2420, *watched), [-2])

    def test_second_call_answers_as_the_first(self):
        for kind in KINDS:
            lists = self.handed(kind)
            first = check(kind, 3, 2, len(lists[3]), *lists)
            first[0] = 7
            first.append(8)
            check(65, 3, 2, 3309, public_key(65, "another"), SHORT, CONTEXT, signature(65))
            check(0, 0, 0, 0, [], [], [], [])
            keys(44, TOPS)
            sign(44, 0, 0, secret_key(44, "key"), [], [], TOPS)
            self.assertEqual(check(kind, 3, 2, len(lists[3]), *lists), [1])

    def test_wrong_ones_leave_nothing_behind(self):
        for kind in KINDS:
            for lists in self.changed(kind)[1:]:
                for _ in range(2):
                    check(kind, 3, 2, len(lists[3]), *lists).append(5)
                self.assertEqual(check(kind, 3, 2, len(lists[3]), *lists), [0])
            self.assertEqual(checked(kind, *self.handed(kind)), [1])

    def test_keys_and_signatures_stay_as_they_are(self):
        for kind in KINDS:
            seed = reference.chance("key", 32)
            before = keys(kind, seed)
            sk = before[1 + reference.SIZES[kind][0]:]
            sig = sign(kind, 3, 2, sk, SHORT, CONTEXT, ZEROS)
            self.assertEqual(checked(kind, *self.handed(kind)), [1])
            self.assertEqual(keys(kind, seed), before)
            self.assertEqual(sign(kind, 3, 2, sk, SHORT, CONTEXT, ZEROS), sig)

    def test_prints_nothing(self):
        out = io.StringIO()
        with contextlib.redirect_stdout(out), contextlib.redirect_stderr(out):
            for lists in self.changed(44):
                check(44, 3, 2, len(lists[3]), *lists)
            check(0, 0, 0, 0, [], [], [], [])
        self.assertEqual(out.getvalue(), "")


if __name__ == "__main__":
    unittest.main()
