"""Numbers as bytes, the way they stand in files."""


def fixed(number, width):
    """The number in so many bytes, the lowest first."""
    packed = []
    rest = number
    for place in range(width):
        packed.append(rest & 255)
        rest = rest >> 8
    return packed


def number_at(data, begin, width):
    """The number that so many bytes of data tell from begin on, the lowest first."""
    number = 0
    for place in range(width):
        number += data[begin + place] << (8 * place)
    return number


def varint(number):
    """The number in sevens of its bits, the lowest first, in as few bytes as can be."""
    packed = []
    rest = number
    while rest > 127:
        packed.append(128 + (rest & 127))
        rest = rest >> 7
    packed.append(rest)
    return packed
