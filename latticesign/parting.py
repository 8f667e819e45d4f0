"""Numbers modulo q parted into an upper and a lower part."""

from latticesign.polynomials import Q

SPLIT_STEP = 8192


def nearest_rest(number, modulus):
    """The rest nearest to 0, of two the upper one."""
    rest = number % modulus
    if 2 * rest > modulus:
        return rest - modulus
    return rest


def split_low(number):
    return nearest_rest(number % Q, SPLIT_STEP)


def split_high(number):
    return (number % Q - split_low(number)) // SPLIT_STEP
