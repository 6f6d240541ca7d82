"""Tables by chance, most of them tables, some with a fault under a right sum; the same ones every time."""
import random
import struct

from tests.forge import File, entry, handle, packed, shared_by
from tests.helper import FILTER_NAME


def some_key(chance):
    letters = chance.choice((b"ab", b"abc\0\xff", bytes(range(256))))
    return bytes(chance.choice(letters) for _ in range(chance.choice((0, 1, 1, 2, 2, 3, 4, 9))))


def some_bytes(chance, most=12):
    return bytes(chance.randrange(256) for _ in range(chance.randrange(most + 1)))


def pairs_by(chance):
    """Pairs whose keys rise; now and then two that don't."""
    keys = sorted({some_key(chance) for _ in range(chance.choice((0, 1, 2, 5, 12)))})
    if len(keys) > 1 and chance.random() < 0.05:
        i = chance.randrange(len(keys) - 1)
        keys[i + 1] = keys[i] if chance.random() < 0.5 else keys[0]
    return [(key, some_bytes(chance)) for key in keys]


def changed(chance, content):
    """Content with a byte changed, left out or put in, now and then."""
    if chance.random() > 0.03 or not content:
        return content
    content = bytearray(content)
    at = chance.randrange(len(content))
    kind = chance.randrange(3)
    if kind == 0:
        content[at] = chance.choice((0, 1, 127, 128, 255, content[at] ^ 1, (content[at] + 1) % 256))
    elif kind == 1:
        content[at:at + 1] = b""
    else:
        content[at:at] = bytes([chance.randrange(256)])
    return bytes(content)


def block_by(chance, pairs):
    """A block of pairs, with chosen restarts, not all that's in common, and varints of chosen lengths."""
    parts = []
    restarts = [0]
    before = b""
    width = chance.choice((1, 1, 1, 2, 10, 11 if chance.random() < 0.05 else 1))
    at = 0
    for i, (key, value) in enumerate(pairs):
        shared = chance.choice((shared_by(before, key), chance.randint(0, shared_by(before, key)), 0))
        if i > 0 and (shared == 0 and chance.random() < 0.5 or chance.random() < 0.005):
            restarts.append(at)
        parts.append(entry(shared, key[shared:], value, width))
        at += len(parts[-1])
        before = key
    if chance.random() < 0.03:
        restarts[chance.randrange(len(restarts))] += chance.choice((-1, 1, 4, 100))
    if chance.random() < 0.02:
        restarts.append(chance.choice((0, at, restarts[-1])))
    restarts = [restart % 2 ** 32 for restart in restarts]
    return changed(chance, packed(parts, restarts))


def index_key(chance, last, following):
    """A key where an index key may be, or nearby."""
    choices = [last, last, last + b"\0", last + b"\xff"]
    if last and last[-1] < 255:
        choices.append(last[:-1] + bytes([last[-1] + 1]))
    if following is not None and chance.random() < 0.1:
        choices += [following, following[:-1]]
    if chance.random() < 0.02:
        choices += [b"", last[:-1]]
    return chance.choice(choices)


def filter_by(chance):
    """A filter of some pieces."""
    pieces = []
    for _ in range(chance.choice((0, 1, 1, 2, 5))):
        size = chance.choice((0, 1, 2, 3, 9, 20))
        dense = chance.choice((0, 255, None))
        piece = bytearray(chance.randrange(256) if dense is None else dense for _ in range(size))
        if size > 0:
            piece[-1] = chance.choice((0, 1, 2, 6, 29, 30, 31, 255))
        pieces.append(bytes(piece))
    content = b"".join(pieces)
    places = [sum(map(len, pieces[:i])) for i in range(len(pieces))]
    if places and chance.random() < 0.1:
        places[chance.randrange(len(places))] = chance.randrange(len(content) + 2)
    told = len(content) if chance.random() > 0.03 else chance.randrange(len(content) + 12)
    return changed(chance, content + struct.pack(f"<{len(places) + 1}I", *places, told) + b"\x0b")


def handle_by(chance, right):
    """The handle, its bytes now and then changed."""
    return changed(chance, right)


def table_by(seed):
    """A table, or nearly one."""
    chance = random.Random(seed)
    file = File()
    pairs = pairs_by(chance)
    blocks = []
    while pairs:
        size = chance.choice((1, 2, 3, len(pairs)))
        blocks.append(pairs[:size])
        pairs = pairs[size:]
    if chance.random() < 0.01:
        blocks.insert(chance.randint(0, len(blocks)), [])
    index = []
    for i, block_pairs in enumerate(blocks):
        file.gap(bytes(chance.choice((0, 0, 0, 1, 2000, 4100))))
        right = file.put(block_by(chance, block_pairs), width=chance.choice((1, 1, 2)))
        last = block_pairs[-1][0] if block_pairs else b"a"
        following = blocks[i + 1][0][0] if i + 1 < len(blocks) and blocks[i + 1] else None
        index.append((index_key(chance, last, following), handle_by(chance, right)))
    if index and chance.random() < 0.01:
        index[chance.randrange(len(index))] = (index[0][0], handle(0, 8))
    meta = []
    if chance.random() < 0.7:
        name = FILTER_NAME if chance.random() > 0.01 else FILTER_NAME[:-1]
        meta.append((name, handle_by(chance, file.put(filter_by(chance)))))
    if chance.random() < 0.01:
        meta.append((b"z", b""))
    meta_handle = file.put(block_by(chance, meta), change=int(chance.random() < 0.01))
    index_handle = file.put(block_by(chance, index), mark=int(chance.random() < 0.01))
    return file.ended(handle_by(chance, meta_handle), handle_by(chance, index_handle), chance.choice((0, 0, 255)))


def keys_by(seed, table):
    """Keys to ask for: some by chance, some that are in the table or next to those."""
    chance = random.Random(seed)
    keys = [b"", some_key(chance), some_key(chance)]
    if table is not None:
        near = [key for key, begin, entries in table.index] + [key for key, value in table.entries()]
        for key in chance.sample(near, min(len(near), 6)):
            keys += [key, key + b"\0", key[:-1]]
    return keys
