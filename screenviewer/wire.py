"""Numbers as they stand in bytes, the highest byte first."""


def number_at(words, at, size):
    number = 0
    for byte in words[at:at + size]:
        number = number * 256 + byte
    return number


def number_bytes(number, size):
    return [(number >> (8 * place)) & 255 for place in range(size - 1, -1, -1)]
