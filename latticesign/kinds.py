"""The kinds of keys and what each of them fixes."""

# kind: rows and columns of the matrix, eta, the bits that eta minus a small number takes
FIXED = {
    44: (4, 4, 2, 3),
    65: (6, 5, 4, 4),
    87: (8, 7, 2, 3),
}


class Kind:
    def __init__(self, fixed):
        self.rows = fixed[0]
        self.columns = fixed[1]
        self.eta = fixed[2]
        self.small_bits = fixed[3]


def is_kind(number):
    return number in FIXED


def kind_of(number):
    return Kind(FIXED[number])
