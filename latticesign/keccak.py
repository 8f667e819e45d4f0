"""SHAKE128 and SHAKE256 over lists of bytes."""

SHAKE128_BLOCK = 168
SHAKE256_BLOCK = 136

LANE_MASK = 0xFFFFFFFFFFFFFFFF

ROUND_CONSTANTS = (
    0x0000000000000001, 0x0000000000008082, 0x800000000000808A, 0x8000000080008000,
    0x000000000000808B, 0x0000000080000001, 0x8000000080008081, 0x8000000000008009,
    0x000000000000008A, 0x0000000000000088, 0x0000000080008009, 0x000000008000000A,
    0x000000008000808B, 0x800000000000008B, 0x8000000000008089, 0x8000000000008003,
    0x8000000000008002, 0x8000000000000080, 0x000000000000800A, 0x800000008000000A,
    0x8000000080008081, 0x8000000000008080, 0x0000000080000001, 0x8000000080008008,
)

# for each new place of a lane: its old place, that place's column, and how
# many bits the lane is turned to the left
MOVES = (
    (0, 0, 0), (6, 1, 44), (12, 2, 43), (18, 3, 21), (24, 4, 14),
    (3, 3, 28), (9, 4, 20), (10, 0, 3), (16, 1, 45), (22, 2, 61),
    (1, 1, 1), (7, 2, 6), (13, 3, 25), (19, 4, 8), (20, 0, 18),
    (4, 4, 27), (5, 0, 36), (11, 1, 10), (17, 2, 15), (23, 3, 56),
    (2, 2, 62), (8, 3, 55), (14, 4, 39), (15, 0, 41), (21, 1, 2),
)

# a lane's place and those of the two lanes behind it in its row
NEIGHBOURS = (
    (0, 1, 2), (1, 2, 3), (2, 3, 4), (3, 4, 0), (4, 0, 1),
    (5, 6, 7), (6, 7, 8), (7, 8, 9), (8, 9, 5), (9, 5, 6),
    (10, 11, 12), (11, 12, 13), (12, 13, 14), (13, 14, 10), (14, 10, 11),
    (15, 16, 17), (16, 17, 18), (17, 18, 19), (18, 19, 15), (19, 15, 16),
    (20, 21, 22), (21, 22, 23), (22, 23, 24), (23, 24, 20), (24, 20, 21),
)


def turned_left(lane, bits):
    return ((lane << bits) & LANE_MASK) | (lane >> (64 - bits))


def column_changes(lanes):
    sums = [lanes[x] ^ lanes[x + 5] ^ lanes[x + 10] ^ lanes[x + 15] ^ lanes[x + 20] for x in range(5)]
    return [sums[(x + 4) % 5] ^ turned_left(sums[(x + 1) % 5], 1) for x in range(5)]


def one_round(lanes, constant):
    changes = column_changes(lanes)
    moved = [turned_left(lanes[place] ^ changes[column], bits) for place, column, bits in MOVES]
    mixed = [moved[here] ^ (moved[behind] & ~moved[after]) for here, after, behind in NEIGHBOURS]
    mixed[0] = mixed[0] ^ constant
    return mixed


def permuted(lanes):
    for constant in ROUND_CONSTANTS:
        lanes = one_round(lanes, constant)
    return lanes


def lane_of(eight_bytes):
    lane = 0
    for byte in reversed(eight_bytes):
        lane = 256 * lane + byte
    return lane


def bytes_of_lane(lane):
    return [(lane >> shift) & 255 for shift in range(0, 64, 8)]


def padded(data, block):
    """SHAKE's padding: bits 1111 and 1, zeros, and a last 1 at the block's end."""
    answer = data + [31] + [0] * (block - 1 - len(data) % block)
    answer[-1] = answer[-1] | 128
    return answer


def with_block(lanes, block_bytes):
    answer = list(lanes)
    for place in range(len(block_bytes) // 8):
        answer[place] = answer[place] ^ lane_of(block_bytes[8 * place:8 * place + 8])
    return answer


def absorbed(data, block):
    filled = padded(data, block)
    lanes = [0] * 25
    for start in range(0, len(filled), block):
        lanes = permuted(with_block(lanes, filled[start:start + block]))
    return lanes


def block_of(lanes, block):
    answer = []
    for lane in lanes[:block // 8]:
        answer.extend(bytes_of_lane(lane))
    return answer


def shake(data, count, block):
    lanes = absorbed(data, block)
    answer = block_of(lanes, block)
    while len(answer) < count:
        lanes = permuted(lanes)
        answer.extend(block_of(lanes, block))
    return answer[:count]


def shake128(data, count):
    return shake(data, count, SHAKE128_BLOCK)


def shake256(data, count):
    return shake(data, count, SHAKE256_BLOCK)
