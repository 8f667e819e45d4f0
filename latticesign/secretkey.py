"""What a secret key's bytes hold."""

from latticesign.packing import unpacked_below
from latticesign.parting import SPLIT_LOW_BITS, SPLIT_LOW_TOP
from latticesign.polynomials import SIZE, parted, transformed

SMALLS_START = 128


def transformed_below(top, data, width):
    """The polynomials packed as the top minus each number; the numbers may be any that the bits can hold."""
    return [transformed(polynomial) for polynomial in parted(unpacked_below(top, data, width))]


# its polynomials are kept transformed, since every try multiplies by them
class SecretKey:
    def __init__(self, kind, sk):
        small_bytes = SIZE * kind.small_bits // 8
        s2_start = SMALLS_START + kind.columns * small_bytes
        t0_start = s2_start + kind.rows * small_bytes
        self.rho = sk[:32]
        self.signing_seed = sk[32:64]
        self.tr = sk[64:SMALLS_START]
        self.s1 = transformed_below(kind.eta, sk[SMALLS_START:s2_start], kind.small_bits)
        self.s2 = transformed_below(kind.eta, sk[s2_start:t0_start], kind.small_bits)
        self.t0 = transformed_below(SPLIT_LOW_TOP, sk[t0_start:], SPLIT_LOW_BITS)
