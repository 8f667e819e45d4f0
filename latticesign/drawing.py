"""Polynomials drawn from bytes that their seed alone decides."""

from latticesign.keccak import shake128, shake256
from latticesign.packing import unpacked, unpacked_below
from latticesign.polynomials import Q, SIZE
from latticesign.refusals import ChanceTooShort

MATRIX_BYTES = 4032
SMALL_BYTES = 1088
CHALLENGE_BYTES = 1096

# the bytes of a challenge that are its signs, a bit each
SIGN_BYTES = 8

# A shorter answer of SHAKE begins the longer one, and so few bytes nearly
# always hold enough: the others are made only where they are needed.
MATRIX_FEW_BYTES = 840
SMALL_FEW_BYTES = 272
CHALLENGE_FEW_BYTES = 136

# eta: halves of bytes from here on are passed over
HALF_LIMITS = {2: 15, 4: 9}


def first_ones(numbers):
    if len(numbers) < SIZE:
        raise ChanceTooShort()
    return numbers[:SIZE]


def numbers_below_q(chance):
    numbers = []
    for low, middle, high in zip(chance[0::3], chance[1::3], chance[2::3]):
        number = low + 256 * middle + 65536 * (high % 128)
        if number < Q:
            numbers.append(number)
    return numbers


def matrix_polynomial(rho, row, column):
    start = rho + [column, row]
    numbers = numbers_below_q(shake128(start, MATRIX_FEW_BYTES))
    if len(numbers) < SIZE:
        numbers = numbers_below_q(shake128(start, MATRIX_BYTES))
    return first_ones(numbers)


def matrix_row(rho, row, columns):
    return [matrix_polynomial(rho, row, column) for column in range(columns)]


def drawn_matrix(rho, rows, columns):
    """Its polynomials are transformed already."""
    return [matrix_row(rho, row, columns) for row in range(rows)]


def two_bytes(number):
    return [number % 256, number // 256]


def small_numbers(chance, eta):
    limit = HALF_LIMITS[eta]
    numbers = []
    for byte in chance:
        for half in (byte % 16, byte // 16):
            if half < limit:
                # for eta 4 all that are left are below 9 and stay as they are
                numbers.append(eta - half % (2 * eta + 1))
    return numbers


def small_polynomial(seed, number, eta):
    start = seed + two_bytes(number)
    numbers = small_numbers(shake256(start, SMALL_FEW_BYTES), eta)
    if len(numbers) < SIZE:
        numbers = small_numbers(shake256(start, SMALL_BYTES), eta)
    return first_ones(numbers)


def small_polynomials(seed, first, count, eta):
    return [small_polynomial(seed, number, eta) for number in range(first, first + count)]


def mask_polynomial(seed, number, g1, bits):
    chance = shake256(seed + two_bytes(number), SIZE * bits // 8)
    return unpacked_below(g1, chance, bits)


def mask_polynomials(seed, first, count, g1, bits):
    return [mask_polynomial(seed, number, g1, bits) for number in range(first, first + count)]


def challenge_places(chance, tau):
    """For each place from 256 - tau on the one that it takes its number from, as far as the bytes suffice."""
    places = []
    for byte in chance[SIGN_BYTES:]:
        if len(places) < tau and byte <= SIZE - tau + len(places):
            places.append(byte)
    return places


def challenge_from(chance, tau):
    places = challenge_places(chance, tau)
    if len(places) < tau:
        raise ChanceTooShort()
    signs = unpacked(chance[:SIGN_BYTES], 1)
    numbers = [0] * SIZE
    for step, place in enumerate(places):
        numbers[SIZE - tau + step] = numbers[place]
        numbers[place] = 1 - 2 * signs[step]
    return numbers


def drawn_challenge(seed, tau):
    chance = shake256(seed, CHALLENGE_FEW_BYTES)
    if len(challenge_places(chance, tau)) < tau:
        chance = shake256(seed, CHALLENGE_BYTES)
    return challenge_from(chance, tau)
