"""Numbers of a few bits put together to bytes."""


def packed(numbers, width):
    """The lowest bits come first; all bits together must fill whole bytes."""
    answer = []
    held = 0
    bits = 0
    for number in numbers:
        held += number << bits
        bits += width
        while bits >= 8:
            answer.append(held % 256)
            held = held // 256
            bits -= 8
    return answer
