"""How a signature comes from a secret key, a message, its context and chance."""

from latticesign.digests import challenge_seed, message_digest
from latticesign.drawing import drawn_challenge, drawn_matrix, mask_polynomials
from latticesign.hints import hint_places, packed_hints
from latticesign.keccak import shake256
from latticesign.packing import packed_below
from latticesign.parting import high_part, low_part, nearest_rest
from latticesign.polynomials import Q, added, joined, largest, matrix_times, subtracted, times_each, transformed
from latticesign.refusals import AllTriesRejected
from latticesign.secretkey import SecretKey

TRIES = 1000


def nearest_rests(numbers):
    return [nearest_rest(number, Q) for number in numbers]


def shown_answer(kind, masks, shifts):
    """The signature's z: the shifted masks, or None if they would tell of the shifts."""
    z = nearest_rests(added(joined(masks), joined(shifts)))
    if largest(z) >= kind.g1 - kind.beta:
        return None
    return z


def shown_hints(kind, x, u):
    """Each row's places with a hint, or None if the rows can't be shown or there are too many."""
    if largest([low_part(number, kind.g2) for number in joined(x)]) >= kind.g2 - kind.beta:
        return None
    if largest(nearest_rests(joined(u))) >= kind.g2:
        return None
    rows = [hint_places(numbers, changes, kind.g2) for numbers, changes in zip(x, u)]
    if len(joined(rows)) > kind.omega:
        return None
    return rows


def tried(kind, secret, matrix, mu, masks):
    """The signature that these masks give, or None if it is rejected."""
    w = matrix_times(matrix, masks)
    e = challenge_seed(kind, mu, [high_part(number, kind.g2) for number in joined(w)])
    c = transformed(drawn_challenge(e, kind.tau))
    z = shown_answer(kind, masks, times_each(c, secret.s1))
    if z is None:
        return None
    x = [subtracted(row, change) for row, change in zip(w, times_each(c, secret.s2))]
    hints = shown_hints(kind, x, times_each(c, secret.t0))
    if hints is None:
        return None
    return e + packed_below(kind.g1, z, kind.mask_bits) + packed_hints(hints, kind.omega)


def made_signature(kind, sk, m, ctx, rnd):
    secret = SecretKey(kind, sk)
    matrix = drawn_matrix(secret.rho, kind.rows, kind.columns)
    mu = message_digest(secret.tr, ctx, m)
    seed = shake256(secret.signing_seed + rnd + mu, 64)
    for count in range(TRIES):
        masks = mask_polynomials(seed, count * kind.columns, kind.columns, kind.g1, kind.mask_bits)
        signature = tried(kind, secret, matrix, mu, masks)
        if signature is not None:
            return signature
    raise AllTriesRejected()
