"""Numbers modulo q parted into an upper and a lower part."""

from latticesign.polynomials import Q

SPLIT_STEP = 8192

# how the parts of a split are packed: in so many bits, the lower ones as this top minus each
SPLIT_HIGH_BITS = 10
SPLIT_LOW_TOP = 4096
SPLIT_LOW_BITS = 13


def nearest_rest(number, modulus):
    """The rest nearest to 0, of two the upper one."""
    rest = number % modulus
    if 2 * rest > modulus:
        return rest - modulus
    return rest


def split_low(number):
    return nearest_rest(number % Q, SPLIT_STEP)


def split_high(number):
    return (number % Q - split_low(number)) // SPLIT_STEP


def high_and_low(number, g2):
    rest = number % Q
    low = nearest_rest(rest, 2 * g2)
    if rest - low == Q - 1:
        return (0, low - 1)
    return ((rest - low) // (2 * g2), low)


def high_part(number, g2):
    return high_and_low(number, g2)[0]


def low_part(number, g2):
    return high_and_low(number, g2)[1]


def hinted_high_part(number, g2):
    """The high part next to the number's: the one up if its low part is above 0, else the one down, round."""
    step = 1 if low_part(number, g2) > 0 else -1
    return (high_part(number, g2) + step) % ((Q - 1) // (2 * g2))
