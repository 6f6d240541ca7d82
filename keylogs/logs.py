"""Logs: records in pieces, no piece over the end of a block."""

from keylogs.checksum import masked, sum_from
from keylogs.packing import fixed

BLOCK = 32768
SUM_WIDTH = 4
LENGTH_WIDTH = 2
HEAD_WIDTH = 7

WHOLE = 1
FIRST = 2
MIDDLE = 3
LAST = 4


def left_in_block(place):
    """How many bytes are left from a place to its block's end."""
    return BLOCK - place % BLOCK


def kind_of(is_first, is_last):
    """Which of a record's pieces it is."""
    if is_first:
        return WHOLE if is_last else FIRST
    return LAST if is_last else MIDDLE


def piece_sum(kind, content):
    """The masked sum of a piece's kind and bytes."""
    return masked(sum_from(sum_from(0, [kind]), content))


def piece_of(kind, content):
    """A piece with what stands ahead of its bytes."""
    return fixed(piece_sum(kind, content), SUM_WIDTH) + fixed(len(content), LENGTH_WIDTH) + [kind] + content


def record_at(place, record):
    """What's to be written for a record at a place in a log."""
    out = []
    begin = 0
    is_first = True
    is_last = False
    while not is_last:
        left = left_in_block(place + len(out))
        if left < HEAD_WIDTH:
            out.extend([0] * left)
            left = BLOCK
        end = min(begin + left - HEAD_WIDTH, len(record))
        is_last = end == len(record)
        out.extend(piece_of(kind_of(is_first, is_last), record[begin:end]))
        is_first = False
        begin = end
    return out
