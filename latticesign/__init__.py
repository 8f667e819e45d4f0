"""Signatures by lattices: ML-DSA, byte for byte, with all chance handed over."""
