"""Logs: records in pieces, no piece over the end of a block."""

from keylogs.checksum import masked, sum_from
from keylogs.errors import LogDamaged, LogEnds
from keylogs.packing import fixed, number_at

BLOCK = 32768
SUM_WIDTH = 4
LENGTH_WIDTH = 2
HEAD_WIDTH = 7

WHOLE = 1
FIRST = 2
MIDDLE = 3
LAST = 4


class Piece:
    """A piece of a record, read from a log, and where it has ended there."""

    def __init__(self, kind, data, end):
        self.kind = kind
        self.data = data
        self.end = end


def left_in_block(place):
    """How many bytes are left from a place to its block's end."""
    return BLOCK - place % BLOCK


def kind_of(is_first, is_last):
    """Which of a record's pieces it is."""
    if is_first:
        return WHOLE if is_last else FIRST
    return LAST if is_last else MIDDLE


def piece_sum(kind, content):
    """The masked sum of a piece's kind and bytes."""
    return masked(sum_from(sum_from(0, [kind]), content))


def piece_of(kind, content):
    """A piece with what stands ahead of its bytes."""
    return fixed(piece_sum(kind, content), SUM_WIDTH) + fixed(len(content), LENGTH_WIDTH) + [kind] + content


def record_at(place, record):
    """What's to be written for a record at a place in a log."""
    out = []
    begin = 0
    is_first = True
    is_last = False
    while not is_last:
        left = left_in_block(place + len(out))
        if left < HEAD_WIDTH:
            out.extend([0] * left)
            left = BLOCK
        end = min(begin + left - HEAD_WIDTH, len(record))
        is_last = end == len(record)
        out.extend(piece_of(kind_of(is_first, is_last), record[begin:end]))
        is_first = False
        begin = end
    return out


def piece_at(log, place):
    """The piece that begins at a place in a log, or in the next block, if it has no room there."""
    begin = place
    if left_in_block(place) < HEAD_WIDTH:
        begin = place + left_in_block(place)
    data_begin = begin + HEAD_WIDTH
    if data_begin > len(log):
        raise LogEnds()
    end = data_begin + number_at(log, begin + SUM_WIDTH, LENGTH_WIDTH)
    if end - begin > left_in_block(begin):
        raise LogDamaged()
    if end > len(log):
        raise LogEnds()
    kind = log[data_begin - 1]
    data = log[data_begin:end]
    if number_at(log, begin, SUM_WIDTH) != piece_sum(kind, data):
        raise LogDamaged()
    return Piece(kind, data, end)


def record_from(log, place):
    """The record that begins at a place in a log, and where it has ended."""
    record = []
    end = place
    kinds = (WHOLE, FIRST)
    while kinds != ():
        piece = piece_at(log, end)
        if piece.kind not in kinds:
            raise LogDamaged()
        record.extend(piece.data)
        end = piece.end
        kinds = (MIDDLE, LAST) if piece.kind in (FIRST, MIDDLE) else ()
    return (record, end)
