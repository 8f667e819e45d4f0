"""The digests that a signature is made with and checked by."""

from latticesign.keccak import shake256
from latticesign.packing import packed


def message_digest(tr, ctx, m):
    return shake256(tr + [0, len(ctx)] + ctx + m, 64)


def challenge_seed(kind, mu, highs):
    return shake256(mu + packed(highs, kind.high_bits), kind.challenge_bytes)
