"""What a signature's bytes hold."""

from latticesign.hints import unpacked_hints
from latticesign.packing import unpacked_below
from latticesign.polynomials import SIZE


# the numbers of z may be any that the bits can hold; the hints are None if they aren't packed just so
class Signature:
    def __init__(self, kind, sig):
        z_start = kind.challenge_bytes
        hints_start = z_start + kind.columns * SIZE * kind.mask_bits // 8
        self.e = sig[:z_start]
        self.z = unpacked_below(kind.g1, sig[z_start:hints_start], kind.mask_bits)
        self.hints = unpacked_hints(sig[hints_start:], kind.omega)
