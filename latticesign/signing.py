"""The calls, as they are handed in and answered."""

from latticesign.keymaking import made_keys
from latticesign.kinds import is_kind, kind_of
from latticesign.refusals import AllTriesRejected, ChanceTooShort
from latticesign.signaturechecking import is_right
from latticesign.signaturemaking import made_signature

LONGEST_MESSAGE = 16777216
LONGEST_CONTEXT = 255
LONGEST_SIGNATURE = 16777216


def keys(kind, seed):
    """[0] and pk's and sk's bytes; [-1] if kind is none; [-2] if chance doesn't suffice."""
    if not is_kind(kind):
        return [-1]
    try:
        made = made_keys(kind_of(kind), seed)
    except ChanceTooShort:
        return [-2]
    return [0] + made


def are_lengths(n, k):
    return 0 <= n <= LONGEST_MESSAGE and 0 <= k <= LONGEST_CONTEXT


def sign(kind, n, k, sk, m, ctx, rnd):
    """How many bytes the signature has, and these; [-1] if kind, n or k is none; [-2] if chance doesn't suffice."""
    if not is_kind(kind) or not are_lengths(n, k):
        return [-1]
    try:
        signature = made_signature(kind_of(kind), sk, m, ctx, rnd)
    except ChanceTooShort:
        return [-2]
    except AllTriesRejected:
        return [-2]
    return [len(signature)] + signature


def is_signature_length(the_len):
    return 0 <= the_len <= LONGEST_SIGNATURE


def check(kind, n, k, the_len, pk, m, ctx, sig):
    """[1] if the signature is right, else [0]; [-1] if a number handed in is none; [-2] if chance doesn't suffice."""
    if not is_kind(kind) or not are_lengths(n, k) or not is_signature_length(the_len):
        return [-1]
    fixed = kind_of(kind)
    if the_len != fixed.signature_bytes:
        return [0]
    try:
        right = is_right(fixed, pk, m, ctx, sig)
    except ChanceTooShort:
        return [-2]
    return [1 if right else 0]
