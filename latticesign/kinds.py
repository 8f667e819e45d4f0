"""The kinds of keys and what each of them fixes."""

# kind: rows and columns of the matrix, eta, tau, g1, g2, beta, omega, the challenge's and the signature's bytes
FIXED = {
    44: (4, 4, 2, 39, 131072, 95232, 78, 80, 32, 2420),
    65: (6, 5, 4, 49, 524288, 261888, 196, 55, 48, 3309),
    87: (8, 7, 2, 60, 524288, 261888, 120, 75, 64, 4627),
}

# the bits that packed numbers take: by eta those of small ones, by g1 those
# of masks, by g2 those of high parts
SMALL_BITS = {2: 3, 4: 4}
MASK_BITS = {131072: 18, 524288: 20}
HIGH_PART_BITS = {95232: 6, 261888: 4}


class Kind:
    def __init__(self, fixed):
        self.rows = fixed[0]
        self.columns = fixed[1]
        self.eta = fixed[2]
        self.tau = fixed[3]
        self.g1 = fixed[4]
        self.g2 = fixed[5]
        self.beta = fixed[6]
        self.omega = fixed[7]
        self.challenge_bytes = fixed[8]
        self.signature_bytes = fixed[9]
        self.small_bits = SMALL_BITS[self.eta]
        self.mask_bits = MASK_BITS[self.g1]
        self.high_bits = HIGH_PART_BITS[self.g2]


def is_kind(number):
    return number in FIXED


def kind_of(number):
    return Kind(FIXED[number])
