"""The document's words worked out once more, slowly and without the program.

SHAKE comes from hashlib, products are written out term by term (or, where many
are needed, made of long numbers, which is held to the former), values are
summed up power by power.
"""

import functools
import hashlib

Q = 8380417
FIXED = {44: (4, 4, 2), 65: (6, 5, 4), 87: (8, 7, 2)}
SIZES = {44: (1312, 2560), 65: (1952, 4032), 87: (2592, 4896)}
SIGNATURE_SIZES = {44: 2420, 65: 3309, 87: 4627}
# tau, g1, g2, beta, omega, the challenge's bytes
SIGNING = {
    44: (39, 2 ** 17, 95232, 78, 80, 32),
    65: (49, 2 ** 19, 261888, 196, 55, 48),
    87: (60, 2 ** 19, 261888, 120, 75, 64),
}


def h(data, count):
    return hashlib.shake_256(bytes(data)).digest(count)


def chance(label, count):
    """Bytes without a pattern, the same every time."""
    return list(hashlib.shake_256(label.encode()).digest(count))


def bits_turned_round(i):
    return int(f"{i:08b}"[::-1], 2)


# 1753 has the order 512 modulo q
POWERS = [pow(1753, exponent, Q) for exponent in range(512)]
EXPONENTS = [2 * bits_turned_round(i) + 1 for i in range(256)]


def values_of(polynomial):
    return [sum(number * POWERS[exponent * j % 512] for j, number in enumerate(polynomial)) % Q
            for exponent in EXPONENTS]


def polynomial_with(values):
    inverse = pow(256, -1, Q)
    return [sum(value * POWERS[-exponent * j % 512] for value, exponent in zip(values, EXPONENTS)) * inverse % Q
            for j in range(256)]


def product(left, right):
    terms = [0] * 512
    for i, one in enumerate(left):
        for j, other in enumerate(right):
            terms[i + j] += one * other
    return [(terms[i] - terms[i + 256]) % Q for i in range(256)]


def fast_product(left, right):
    """The same product by one of long numbers, whose digits are wide enough for every sum of terms."""
    digit = 16
    longs = []
    for polynomial in (left, right):
        longs.append(int.from_bytes(b"".join((number % Q).to_bytes(digit, "little") for number in polynomial), "little"))
    whole = (longs[0] * longs[1]).to_bytes(512 * digit, "little")
    terms = [int.from_bytes(whole[i * digit:(i + 1) * digit], "little") for i in range(512)]
    return [(terms[i] - terms[i + 256]) % Q for i in range(256)]


def matrix_entry(rho, r, s):
    stream = hashlib.shake_128(bytes(rho) + bytes([s, r])).digest(4032)
    threes = [stream[i] + 256 * stream[i + 1] + 65536 * (stream[i + 2] % 128) for i in range(0, 4032, 3)]
    return [number for number in threes if number < Q][:256]


def small(seed, j, eta):
    halves = []
    for byte in h(bytes(seed) + j.to_bytes(2, "little"), 1088):
        halves += [byte & 15, byte >> 4]
    if eta == 2:
        return [2 - half % 5 for half in halves if half < 15][:256]
    return [4 - half for half in halves if half < 9][:256]


def split(z):
    r = z % Q
    b = [b for b in range(-4095, 4097) if (r - b) % 8192 == 0]
    assert len(b) == 1
    return (r - b[0]) // 8192, b[0]


def fast_split(z):
    """The same by one look: a is the nearest, and half goes down."""
    a = (z % Q + 4095) // 8192
    return a, z % Q - 8192 * a


def packed(numbers, width):
    whole = sum(number << (width * place) for place, number in enumerate(numbers))
    return list(whole.to_bytes(len(numbers) * width // 8, "little"))


def unpacked(data, width):
    whole = int.from_bytes(bytes(data), "little")
    return [whole >> (width * place) & (2 ** width - 1) for place in range(len(data) * 8 // width)]


def keys(kind, seed):
    k, l, eta = FIXED[kind]
    start = h(bytes(seed) + bytes([k, l]), 128)
    rho, small_seed, big_k = start[:32], start[32:96], start[96:]
    s1 = [small(small_seed, j, eta) for j in range(l)]
    s2 = [small(small_seed, j, eta) for j in range(l, l + k)]
    pk, lows = list(rho), []
    for r in range(k):
        t = s2[r]
        for s in range(l):
            term = product(polynomial_with(matrix_entry(rho, r, s)), s1[s])
            t = [(one + other) % Q for one, other in zip(t, term)]
        pk += packed([fast_split(z)[0] for z in t], 10)
        lows += packed([4096 - fast_split(z)[1] for z in t], 13)
    sk = list(rho) + list(big_k) + list(h(pk, 64))
    for polynomial in s1 + s2:
        sk += packed([eta - number for number in polynomial], 3 if eta == 2 else 4)
    return [0] + pk + sk + lows


@functools.lru_cache(maxsize=None)
def plain_matrix_entry(rho, r, s):
    return polynomial_with(matrix_entry(rho, r, s))


def nearest(z, m):
    rest = z % m
    return rest if rest <= m // 2 else rest - m


def parts(z, g2):
    """High and low part."""
    b = nearest(z % Q, 2 * g2)
    if z % Q - b == Q - 1:
        return 0, b - 1
    return (z % Q - b) // (2 * g2), b


def mask(seed, number, g1):
    width = g1.bit_length()
    return [g1 - one for one in unpacked(h(bytes(seed) + number.to_bytes(2, "little"), 32 * width), width)]


def challenge(seed, tau):
    stream = h(seed, 1096)
    signs = [stream[place // 8] >> place % 8 & 1 for place in range(64)]
    rest = iter(stream[8:])
    c = [0] * 256
    for i in range(256 - tau, 256):
        j = next(byte for byte in rest if byte <= i)
        c[i] = c[j]
        c[j] = -1 if signs.pop(0) else 1
    return c


def sum_of(polynomials):
    return [sum(numbers) % Q for numbers in zip(*polynomials)]


class Signer:
    """Signs as the document says, and tells how often it tried."""

    def __init__(self, kind, sk, times=product):
        self.kind, self.times = kind, times
        self.k, self.l, eta = FIXED[kind]
        self.rho, self.big_k, self.tr = bytes(sk[:32]), bytes(sk[32:64]), bytes(sk[64:128])
        width = 3 if eta == 2 else 4
        smalls = 128 + (self.k + self.l) * 32 * width
        s = [eta - number for number in unpacked(sk[128:smalls], width)]
        t = [4096 - number for number in unpacked(sk[smalls:], 13)]
        vectors = [s[256 * i:256 * i + 256] for i in range(self.k + self.l)]
        self.s1, self.s2 = vectors[:self.l], vectors[self.l:]
        self.t0 = [t[256 * i:256 * i + 256] for i in range(self.k)]

    def sign(self, m, ctx, rnd):
        mu = h(self.tr + bytes([0, len(ctx)]) + bytes(ctx) + bytes(m), 64)
        seed = h(self.big_k + bytes(rnd) + mu, 64)
        for self.tries in range(1, 1001):
            signature = self.one_try(mu, seed, (self.tries - 1) * self.l)
            if signature:
                return [len(signature)] + signature
        return [-2]

    def one_try(self, mu, seed, n):
        tau, g1, g2, beta, omega, count = SIGNING[self.kind]
        y = [mask(seed, n + r, g1) for r in range(self.l)]
        w = [sum_of([self.times(plain_matrix_entry(self.rho, r, s), y[s]) for s in range(self.l)])
             for r in range(self.k)]
        highs = [parts(number, g2)[0] for row in w for number in row]
        e = h(mu + bytes(packed(highs, 6 if self.kind == 44 else 4)), count)
        c = challenge(e, tau)
        z = [nearest(number, Q) for r in range(self.l) for number in sum_of([y[r], self.times(c, self.s1[r])])]
        if any(abs(number) >= g1 - beta for number in z):
            return None
        hints = self.hints(w, c)
        if hints is None:
            return None
        return list(e) + packed([g1 - number for number in z], g1.bit_length()) + hints

    def hints(self, w, c):
        _, _, g2, beta, omega, _ = SIGNING[self.kind]
        places, ends = [], []
        for r in range(self.k):
            x = [(one - other) % Q for one, other in zip(w[r], self.times(c, self.s2[r]))]
            u = self.times(c, self.t0[r])
            if any(abs(parts(number, g2)[1]) >= g2 - beta for number in x):
                return None
            if any(abs(nearest(number, Q)) >= g2 for number in u):
                return None
            places += [i for i in range(256) if parts(x[i], g2)[0] != parts(x[i] + u[i], g2)[0]]
            ends.append(len(places))
        if len(places) > omega:
            return None
        return places + [0] * (omega - len(places)) + ends


def hint_rows(data, k, omega):
    """Each row's places, or None where they aren't packed just so."""
    rows, used = [], 0
    for count in data[omega:omega + k]:
        row = data[used:count]
        if count < used or count > omega or row != sorted(set(row)):
            return None
        rows.append(row)
        used = count
    if set(data[used:omega]) - {0}:
        return None
    return rows


def next_part(z, g2):
    """The high part that a hint leads to."""
    high, low = parts(z, g2)
    count = (Q - 1) // (2 * g2)
    if low > 0:
        return high + 1 if high + 1 < count else 0
    return high - 1 if high > 0 else count - 1


class Checker:
    """Checks as the document says, and makes right signatures where a public key allows it without a secret."""

    def __init__(self, kind, pk, times=product):
        self.kind, self.pk, self.times = kind, pk, times
        self.k, self.l, _ = FIXED[kind]
        numbers = unpacked(pk[32:], 10)
        self.t1 = [numbers[256 * i:256 * i + 256] for i in range(self.k)]

    def x(self, z, c):
        rows = []
        for r in range(self.k):
            terms = [self.times(plain_matrix_entry(bytes(self.pk[:32]), r, s), z[256 * s:256 * s + 256])
                     for s in range(self.l)]
            rows.append(sum_of(terms + [[-8192 * number for number in self.times(c, self.t1[r])]]))
        return rows

    def e(self, x, hints, m, ctx):
        _, _, g2, _, _, count = SIGNING[self.kind]
        highs = [next_part(number, g2) if place in hints[r] else parts(number, g2)[0]
                 for r, row in enumerate(x) for place, number in enumerate(row)]
        mu = h(h(self.pk, 64) + bytes([0, len(ctx)] + ctx + m), 64)
        return h(mu + bytes(packed(highs, 6 if self.kind == 44 else 4)), count)

    def check(self, m, ctx, sig):
        tau, g1, _, beta, omega, count = SIGNING[self.kind]
        if len(sig) != SIGNATURE_SIZES[self.kind]:
            return [0]
        end = count + self.l * 32 * g1.bit_length()
        z = [g1 - number for number in unpacked(sig[count:end], g1.bit_length())]
        hints = hint_rows(sig[end:], self.k, omega)
        if hints is None or any(abs(number) >= g1 - beta for number in z):
            return [0]
        e = bytes(sig[:count])
        return [1 if self.e(self.x(z, challenge(e, tau)), hints, m, ctx) == e else 0]

    def put_together(self, e, z, hint_bytes):
        g1 = SIGNING[self.kind][1]
        return list(e) + packed([g1 - number for number in z], g1.bit_length()) + hint_bytes

    def forged(self, z, hints, hint_bytes, m, ctx):
        """For a t1 of zeros: x doesn't hang on c. The hints are what a lenient reader may take the bytes for."""
        return self.put_together(self.e(self.x(z, [0] * 256), hints, m, ctx), z, hint_bytes)

    def forged_with_hints(self, z, m, ctx):
        """For a t1 so small, times 8192 modulo q, that hints can undo it."""
        tau, _, g2, _, omega, _ = SIGNING[self.kind]
        w = self.x(z, [0] * 256)
        e = self.e(w, [[]] * self.k, m, ctx)
        x = self.x(z, challenge(e, tau))
        places, ends = [], []
        for left, right in zip(w, x):
            places += [i for i in range(256) if parts(left[i], g2)[0] != parts(right[i], g2)[0]]
            ends.append(len(places))
        return self.put_together(e, z, places + [0] * (omega - len(places)) + ends)
