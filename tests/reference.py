"""The document's words worked out once more, slowly and without the program.

SHAKE comes from hashlib, products are written out term by term, values are
summed up power by power.
"""

import hashlib

Q = 8380417
FIXED = {44: (4, 4, 2), 65: (6, 5, 4), 87: (8, 7, 2)}
SIZES = {44: (1312, 2560), 65: (1952, 4032), 87: (2592, 4896)}


def h(data, count):
    return hashlib.shake_256(bytes(data)).digest(count)


def chance(label, count):
    """Bytes without a pattern, the same every time."""
    return list(hashlib.shake_256(label.encode()).digest(count))


def bits_turned_round(i):
    return int(f"{i:08b}"[::-1], 2)


# 1753 has the order 512 modulo q
POWERS = [pow(1753, exponent, Q) for exponent in range(512)]
EXPONENTS = [2 * bits_turned_round(i) + 1 for i in range(256)]


def values_of(polynomial):
    return [sum(number * POWERS[exponent * j % 512] for j, number in enumerate(polynomial)) % Q
            for exponent in EXPONENTS]


def polynomial_with(values):
    inverse = pow(256, -1, Q)
    return [sum(value * POWERS[-exponent * j % 512] for value, exponent in zip(values, EXPONENTS)) * inverse % Q
            for j in range(256)]


def product(left, right):
    terms = [0] * 512
    for i, one in enumerate(left):
        for j, other in enumerate(right):
            terms[i + j] += one * other
    return [(terms[i] - terms[i + 256]) % Q for i in range(256)]


def matrix_entry(rho, r, s):
    stream = hashlib.shake_128(bytes(rho) + bytes([s, r])).digest(4032)
    threes = [stream[i] + 256 * stream[i + 1] + 65536 * (stream[i + 2] % 128) for i in range(0, 4032, 3)]
    return [number for number in threes if number < Q][:256]


def small(seed, j, eta):
    halves = []
    for byte in h(bytes(seed) + j.to_bytes(2, "little"), 1088):
        halves += [byte & 15, byte >> 4]
    if eta == 2:
        return [2 - half % 5 for half in halves if half < 15][:256]
    return [4 - half for half in halves if half < 9][:256]


def split(z):
    r = z % Q
    b = [b for b in range(-4095, 4097) if (r - b) % 8192 == 0]
    assert len(b) == 1
    return (r - b[0]) // 8192, b[0]


def fast_split(z):
    """The same by one look: a is the nearest, and half goes down."""
    a = (z % Q + 4095) // 8192
    return a, z % Q - 8192 * a


def packed(numbers, width):
    whole = sum(number << (width * place) for place, number in enumerate(numbers))
    return list(whole.to_bytes(len(numbers) * width // 8, "little"))


def keys(kind, seed):
    k, l, eta = FIXED[kind]
    start = h(bytes(seed) + bytes([k, l]), 128)
    rho, small_seed, big_k = start[:32], start[32:96], start[96:]
    s1 = [small(small_seed, j, eta) for j in range(l)]
    s2 = [small(small_seed, j, eta) for j in range(l, l + k)]
    pk, lows = list(rho), []
    for r in range(k):
        t = s2[r]
        for s in range(l):
            term = product(polynomial_with(matrix_entry(rho, r, s)), s1[s])
            t = [(one + other) % Q for one, other in zip(t, term)]
        pk += packed([fast_split(z)[0] for z in t], 10)
        lows += packed([4096 - fast_split(z)[1] for z in t], 13)
    sk = list(rho) + list(big_k) + list(h(pk, 64))
    for polynomial in s1 + s2:
        sk += packed([eta - number for number in polynomial], 3 if eta == 2 else 4)
    return [0] + pk + sk + lows
