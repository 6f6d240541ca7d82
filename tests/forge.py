"""Tables put together by hand, also such as are never made, and such as have a fault.

Nothing here draws on the package, so that both must agree with the document.
"""
import struct

from tests.helper import FILTER_NAME, MAGIC, sealed


def varint(number, width=1):
    """A varint of at least so many bytes."""
    out = []
    while number > 127 or len(out) + 1 < width:
        out.append(128 | number & 127)
        number >>= 7
    return bytes(out + [number])


def handle(begin, length, width=1):
    return varint(begin, width) + varint(length, width)


def entry(shared, more, value=b"", width=1):
    return varint(shared, width) + varint(len(more), width) + varint(len(value), width) + more + value


def shared_by(one, other):
    shared = 0
    while shared < min(len(one), len(other)) and one[shared] == other[shared]:
        shared += 1
    return shared


def packed(entries, restarts=(0,), count=None):
    """A block of entries that are bytes already, with these restarts."""
    count = len(restarts) if count is None else count
    return b"".join(entries) + struct.pack(f"<{len(restarts)}I", *restarts) + struct.pack("<I", count)


def block(pairs, interval=16, width=1):
    """A block of pairs of key and value, as it's told."""
    out = b""
    restarts = [0]
    before = b""
    for i, (key, value) in enumerate(pairs):
        shared = shared_by(before, key)
        if i % interval == 0:
            shared = 0
            if i > 0:
                restarts.append(len(out))
        out += entry(shared, key[shared:], value, width)
        before = key
    return packed([out], restarts)


def filter_of(pieces, places=None, told=None, last=11):
    """A filter of these pieces, with its places where they are or elsewhere."""
    content = b"".join(pieces)
    if places is None:
        places = [sum(map(len, pieces[:i])) for i in range(len(pieces))]
    told = len(content) if told is None else told
    return content + struct.pack(f"<{len(places)}I", *places) + struct.pack("<I", told) + bytes([last])


class File:
    """A file that parts are put into."""

    def __init__(self):
        self.out = bytearray()

    def put(self, content, mark=0, change=0, width=1):
        """Puts content with its five bytes, a bit of the sum perhaps changed; gives back the handle."""
        begin = len(self.out)
        five = bytearray(sealed(content, mark))
        five[1] ^= change
        self.out += content + five
        return handle(begin, len(content), width)

    def gap(self, content):
        self.out += content

    def ended(self, meta, index, fill=0, magic=MAGIC):
        """The whole file, as a list."""
        handles = meta + index
        return list(bytes(self.out) + handles + bytes([fill] * (40 - len(handles))) + magic)


def table_of(blocks, keys=None, sieve=None, name=FILTER_NAME):
    """A table of data blocks that are lists of pairs, or bytes; with index keys, and a filter's bytes."""
    file = File()
    contents = [part if isinstance(part, bytes) else block(part) for part in blocks]
    keys = [part[-1][0] for part in blocks] if keys is None else keys
    index = [(key, file.put(content)) for key, content in zip(keys, contents)]
    meta = [] if sieve is None else [(name, file.put(sieve))]
    meta_handle = file.put(block(meta))
    return file.ended(meta_handle, file.put(block(index, 1)))
