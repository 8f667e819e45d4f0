"""Numbers of a few bits put together to bytes, and taken out of them."""


def packed(numbers, width):
    """The lowest bits come first; all bits together must fill whole bytes."""
    answer = []
    held = 0
    bits = 0
    for number in numbers:
        held += number << bits
        bits += width
        while bits >= 8:
            answer.append(held % 256)
            held = held // 256
            bits -= 8
    return answer


def unpacked(data, width):
    numbers = []
    limit = 1 << width
    held = 0
    bits = 0
    for byte in data:
        held += byte << bits
        bits += 8
        while bits >= width:
            numbers.append(held % limit)
            held = held // limit
            bits -= width
    return numbers


def packed_below(top, numbers, width):
    """Packed as the top minus each, for numbers that may lie below 0."""
    return packed([top - number for number in numbers], width)


def unpacked_below(top, data, width):
    return [top - number for number in unpacked(data, width)]
