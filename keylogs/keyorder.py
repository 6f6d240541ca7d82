"""What keys have in common, and keys that lie between others."""

STRIDE = 1024


def shared_length(one, other, known):
    """How many first bytes the two keys have in common; so many are known already."""
    shared = known
    # Many bytes are compared at once first, for keys may be long and have much in common.
    while shared < len(one) and one[shared:shared + STRIDE] == other[shared:shared + STRIDE]:
        shared += STRIDE
    for mine, yours in zip(one[shared:shared + STRIDE], other[shared:shared + STRIDE]):
        if mine != yours:
            break
        shared += 1
    return min(shared, len(one))


def key_between(last, following):
    """The index key of a block whose last key comes before the next block's first one."""
    shared = shared_length(last, following, 0)
    ended = shared == len(last) or shared == len(following)
    if not ended and last[shared] + 1 < following[shared]:
        return last[:shared] + [last[shared] + 1]
    return last


def key_behind(last):
    """The index key of the last block."""
    for place, byte in enumerate(last):
        if byte != 255:
            return last[:place] + [byte + 1]
    return last
