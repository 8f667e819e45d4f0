"""Numbers modulo q parted into an upper and a lower part."""

from latticesign.polynomials import Q

SPLIT_STEP = 8192

# how the lower parts of a split are packed: as this top minus each, in so many bits
SPLIT_LOW_TOP = 4096
SPLIT_LOW_BITS = 13


def nearest_rest(number, modulus):
    """The rest nearest to 0, of two the upper one."""
    rest = number % modulus
    if 2 * rest > modulus:
        return rest - modulus
    return rest


def split_low(number):
    return nearest_rest(number % Q, SPLIT_STEP)


def split_high(number):
    return (number % Q - split_low(number)) // SPLIT_STEP


def high_and_low(number, g2):
    rest = number % Q
    low = nearest_rest(rest, 2 * g2)
    if rest - low == Q - 1:
        return (0, low - 1)
    return ((rest - low) // (2 * g2), low)


def high_part(number, g2):
    return high_and_low(number, g2)[0]


def low_part(number, g2):
    return high_and_low(number, g2)[1]
