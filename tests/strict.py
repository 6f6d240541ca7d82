"""A second strict reader of tables, slow and plain; the document's words one after another.

Nothing here draws on the package, so that both must agree with the document.
"""
import struct

from tests.helper import FILTER_NAME, MAGIC, bits_of, sealed


class Fault(Exception):
    pass


def need(holds):
    if not holds:
        raise Fault()


def varint(data, at):
    """A varint's number, and where it has ended."""
    for length in range(1, 11):
        part = data[at:at + length]
        need(len(part) == length)
        if part[-1] < 128:
            number = sum((byte & 127) * 128 ** i for i, byte in enumerate(part))
            need(number < 2 ** 63)
            return number, at + length
    raise Fault()


def handle(data, at):
    begin, at = varint(data, at)
    length, at = varint(data, at)
    return begin, length, at


def handle_alone(data):
    begin, length, at = handle(data, 0)
    need(at == len(data))
    return begin, length


def content_at(file, begin, length):
    need(begin + length + 5 <= len(file) - 48)
    content = file[begin:begin + length]
    need(file[begin + length:begin + length + 5] == sealed(content))
    return content


def block_entries(content):
    need(len(content) >= 8)
    count = struct.unpack("<I", content[-4:])[0]
    need(1 <= count and 4 * count + 4 <= len(content))
    body = content[:len(content) - 4 * count - 4]
    restarts = list(struct.unpack(f"<{count}I", content[len(body):-4]))
    need(restarts[0] == 0 and restarts == sorted(set(restarts)))
    entries = []
    may_restart = [] if body else [0]
    at = 0
    while at < len(body):
        begin = at
        shared, at = varint(body, at)
        more, at = varint(body, at)
        size, at = varint(body, at)
        need(at + more + size <= len(body))
        if shared == 0:
            may_restart.append(begin)
        before = entries[-1][0] if entries else b""
        need(shared <= len(before))
        key = before[:shared] + body[at:at + more]
        need(not entries or before < key)
        entries.append((key, body[at + more:at + more + size]))
        at += more + size
    need(set(restarts) <= set(may_restart))
    return entries


def filter_pieces(content):
    need(len(content) >= 5 and content[-1] == 11)
    told = struct.unpack("<I", content[-5:-1])[0]
    need(told <= len(content) - 5 and (len(content) - 5 - told) % 4 == 0)
    count = (len(content) - 5 - told) // 4
    places = list(struct.unpack(f"<{count}I", content[told:-5])) + [told]
    need(places == sorted(places))
    return [content[a:b] for a, b in zip(places, places[1:])]


class Strict:
    """A table's parts: index, a list of index key, where the block begins, entries; pieces, or None."""

    def __init__(self, file):
        need(len(file) >= 48 and file[-8:] == MAGIC)
        meta_begin, meta_length, at = handle(file[:-8], len(file) - 48)
        index_begin, index_length, at = handle(file[:-8], at)
        self.pieces = None
        meta = block_entries(content_at(file, meta_begin, meta_length))
        if meta:
            need(len(meta) == 1 and meta[0][0] == FILTER_NAME)
            self.pieces = filter_pieces(content_at(file, *handle_alone(meta[0][1])))
        self.index = []
        end = 0
        for key, value in block_entries(content_at(file, index_begin, index_length)):
            begin, length = handle_alone(value)
            need(begin >= end)
            end = begin + length + 5
            entries = block_entries(content_at(file, begin, length))
            need(entries != [] and entries[-1][0] <= key)
            need(self.index == [] or self.index[-1][0] < entries[0][0])
            self.index.append((key, begin, entries))

    def entries(self):
        return [pair for key, begin, entries in self.index for pair in entries]

    def may(self, key):
        """What the index and the filter say of a key."""
        begins = [begin for index_key, begin, entries in self.index if index_key >= key]
        if not begins:
            return 0
        if self.pieces is None or begins[0] // 2048 >= len(self.pieces):
            return 1
        piece = self.pieces[begins[0] // 2048]
        if len(piece) < 2:
            return 0
        if piece[-1] > 30:
            return 1
        number = int.from_bytes(piece[:-1], "little")
        return int(all(number >> bit & 1 for bit in bits_of(key, piece[-1], 8 * len(piece) - 8)))


def strict(table):
    """The table's parts; None, if it's no table."""
    try:
        return Strict(bytes(table))
    except Fault:
        return None
