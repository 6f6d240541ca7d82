"""The sum, CRC-32C, and how it's masked where it stands in a file."""

ALL_ONES = 0xFFFFFFFF
MASK_ADDEND = 0xA282EAD8

# What four low bits leave behind when they're divided out by the reflected polynomial.
REMAINDERS = (
    0x00000000, 0x105EC76F, 0x20BD8EDE, 0x30E349B1,
    0x417B1DBC, 0x5125DAD3, 0x61C69362, 0x7198540D,
    0x82F63B78, 0x92A8FC17, 0xA24BB5A6, 0xB21572C9,
    0xC38D26C4, 0xD3D3E1AB, 0xE330A81A, 0xF36E6F75,
)


def sum_from(start, data):
    """The sum of data, gone on with from start."""
    left = start ^ ALL_ONES
    for byte in data:
        left = left ^ byte
        left = (left >> 4) ^ REMAINDERS[left & 15]
        left = (left >> 4) ^ REMAINDERS[left & 15]
    return left ^ ALL_ONES


def masked(number):
    """A sum as it stands in a file."""
    turned = (number >> 15) | ((number << 17) & ALL_ONES)
    return (turned + MASK_ADDEND) & ALL_ONES
