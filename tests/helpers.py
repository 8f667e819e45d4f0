"""What several tests need: lists that won't be changed, and SHAKEs that give too little."""

import hashlib


class Watched(list):
    def refuse(self, *args):
        raise AssertionError("what is handed in is changed")
    append = extend = insert = pop = remove = clear = reverse = sort = refuse
    __setitem__ = __delitem__ = __iadd__ = __imul__ = refuse


def too_short(data, count):
    return [255] * count


def shake128_too_short_at(row, column):
    def shake128(data, count):
        if data[32:] == [column, row]:
            return too_short(data, count)
        return list(hashlib.shake_128(bytes(data)).digest(count))
    return shake128
