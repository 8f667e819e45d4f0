"""What several tests need: keys, wrong numbers, lists that won't be changed, and SHAKEs that give too little."""

import functools
import hashlib

import reference
from latticesign.signing import keys

KINDS = (44, 65, 87)
NO_KINDS = (-2147483648, -87, -44, -2, -1, 0, 1, 2, 43, 45, 64, 66, 86, 88, 300, 2147483647)
NO_MESSAGE_LENGTHS = (-2147483648, -1, 16777217, 2147483647)
NO_CONTEXT_LENGTHS = (-2147483648, -1, 256, 2147483647)


@functools.lru_cache(maxsize=None)
def pair_from(kind, seed):
    made = keys(kind, list(seed))
    pk_end = 1 + reference.SIZES[kind][0]
    return tuple(made[1:pk_end]), tuple(made[pk_end:])


def public_key(kind, label):
    return list(pair_from(kind, tuple(reference.chance(label, 32)))[0])


def secret_key(kind, label):
    return list(pair_from(kind, tuple(reference.chance(label, 32)))[1])


class Watched(list):
    def refuse(self, *args):
        raise AssertionError("what is handed in is changed")
    append = extend = insert = pop = remove = clear = reverse = sort = refuse
    __setitem__ = __delitem__ = __iadd__ = __imul__ = refuse


def too_short(data, count):
    return [255] * count


def shake128_too_short_at(row, column):
    def shake128(data, count):
        if data[32:] == [column, row]:
            return too_short(data, count)
        return list(hashlib.shake_128(bytes(data)).digest(count))
    return shake128
