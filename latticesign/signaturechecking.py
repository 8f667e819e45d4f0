"""Whether a signature is right for a public key, a message and its context."""

from latticesign.digests import challenge_seed, message_digest
from latticesign.drawing import drawn_challenge, drawn_matrix
from latticesign.hints import hinted_highs
from latticesign.keccak import shake256
from latticesign.packing import unpacked
from latticesign.parting import SPLIT_HIGH_BITS, SPLIT_STEP
from latticesign.polynomials import joined, largest, matrix_times, parted, subtracted, times_each, transformed
from latticesign.signature import Signature


def upper_parts(pk):
    """The public key's numbers t1, times the step that they were split by, as transformed polynomials."""
    numbers = [SPLIT_STEP * number for number in unpacked(pk[32:], SPLIT_HIGH_BITS)]
    return [transformed(polynomial) for polynomial in parted(numbers)]


def claimed_highs(kind, matrix, c, pk, signature):
    """The high parts that the signature must have been made with, if it is right."""
    products = matrix_times(matrix, parted(signature.z))
    changes = times_each(transformed(c), upper_parts(pk))
    x = [subtracted(row, change) for row, change in zip(products, changes)]
    return joined([hinted_highs(row, places, kind.g2) for row, places in zip(x, signature.hints)])


def is_right(kind, pk, m, ctx, sig):
    signature = Signature(kind, sig)
    # these come first, since too little chance is a refusal whatever else the signature holds
    matrix = drawn_matrix(pk[:32], kind.rows, kind.columns)
    c = drawn_challenge(signature.e, kind.tau)
    if signature.hints is None or largest(signature.z) >= kind.g1 - kind.beta:
        return False
    mu = message_digest(shake256(pk, 64), ctx, m)
    return signature.e == challenge_seed(kind, mu, claimed_highs(kind, matrix, c, pk, signature))
