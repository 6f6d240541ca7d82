"""The ranges of the numbers that are handed in."""

LONGEST = 16777216
LONGEST_KEY = 65535


def within(number, low, high):
    return low <= number <= high


def is_length(number):
    """Whether bytes that are handed in or answered may be so many."""
    return within(number, 0, LONGEST)


def is_key_length(number):
    """Whether a key that's handed in may have so many bytes."""
    return within(number, 0, LONGEST_KEY)


def is_shape(interval, block, bits):
    """Whether a table can be made by these."""
    return within(interval, 1, 64) and within(block, 64, 65536) and within(bits, 0, 20)
