"""How a public and a secret key come from their seed."""

from latticesign.drawing import drawn_matrix, small_polynomials
from latticesign.keccak import shake256
from latticesign.packing import packed, packed_below
from latticesign.parting import SPLIT_HIGH_BITS, SPLIT_LOW_BITS, SPLIT_LOW_TOP, split_high, split_low
from latticesign.polynomials import added, joined, matrix_times


def made_keys(kind, seed):
    """The public key's bytes, then the secret key's."""
    start = shake256(seed + [kind.rows, kind.columns], 128)
    rho = start[:32]
    small_seed = start[32:96]
    signing_seed = start[96:]
    s1 = small_polynomials(small_seed, 0, kind.columns, kind.eta)
    s2 = small_polynomials(small_seed, kind.columns, kind.rows, kind.eta)
    product = matrix_times(drawn_matrix(rho, kind.rows, kind.columns), s1)
    t = added(joined(product), joined(s2))
    pk = rho + packed([split_high(number) for number in t], SPLIT_HIGH_BITS)
    smalls = packed_below(kind.eta, joined(s1 + s2), kind.small_bits)
    lows = packed_below(SPLIT_LOW_TOP, [split_low(number) for number in t], SPLIT_LOW_BITS)
    sk = rho + signing_seed + shake256(pk, 64) + smalls + lows
    return pk + sk
