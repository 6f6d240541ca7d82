"""What the tests share: rows, a slow second way to each sum and hash, and a reader of tables.

Nothing here draws on the package, so that both must agree with the document.
"""
import struct

MAGIC = bytes.fromhex("57fb808b247547db")
FILTER_NAME = b"filter.leveldb.BuiltinBloomFilter2"
WORD = 2 ** 32


def row(key, value):
    return list(struct.pack("<HI", len(key), len(value)) + bytes(key) + bytes(value))


def rows_of(entries):
    """The rows of pairs of key and value, in the order in which they come."""
    rows = []
    for key, value in entries:
        rows.extend(row(key, value))
    return rows


def files_of(*tables):
    """The tables as files, each with its length before it."""
    return [number for table in tables for number in list(struct.pack("<I", len(table))) + table]


def noise(count, seed=1):
    """So many bytes that look like chance and are always the same."""
    state = seed
    out = bytearray()
    for _ in range(count):
        state = (state * 1103515245 + 12345) % 2 ** 31
        out.append(state >> 16 & 255)
    return bytes(out)


def crc32c(data, start=0):
    """CRC-32C bit by bit."""
    left = start ^ 0xFFFFFFFF
    for byte in data:
        for bit in range(8):
            out = (left ^ byte >> bit) & 1
            left >>= 1
            if out:
                left ^= 0x82F63B78
    return left ^ 0xFFFFFFFF


def left_by(byte):
    """What a byte leaves behind in the sum."""
    for _ in range(8):
        byte = byte >> 1 ^ (0x82F63B78 if byte & 1 else 0)
    return byte


LEFT = [left_by(byte) for byte in range(256)]


def crc32c_fast(data, start=0):
    """CRC-32C byte by byte, for tests with much data."""
    left = start ^ 0xFFFFFFFF
    for byte in data:
        left = left >> 8 ^ LEFT[(left ^ byte) & 255]
    return left ^ 0xFFFFFFFF


def masked(number):
    turned = int(format(number, "032b")[-15:] + format(number, "032b")[:-15], 2)
    return (turned + 0xA282EAD8) % WORD


def sealed(content, mark=0):
    """The five bytes behind a block or filter."""
    return bytes([mark]) + struct.pack("<I", masked(crc32c_fast(bytes(content) + bytes([mark]))))


def log_piece(kind, content, change=0, length=None):
    """A piece of a record in a log, its sum perhaps changed; a length may be told that isn't its own."""
    seal = masked(crc32c_fast(bytes([kind]) + content)) ^ change
    return struct.pack("<IHB", seal, len(content) if length is None else length, kind) + content


def key_hash(key):
    """The words' h."""
    h = 0xBC9F1D34 ^ len(key) * 0xC6A4A793 % WORD
    for begin in range(0, len(key), 4):
        part = bytes(key[begin:begin + 4])
        h = (h + int.from_bytes(part, "little")) * 0xC6A4A793 % WORD
        h ^= h >> (16 if len(part) == 4 else 24)
    return h


def bits_of(key, probes, total):
    """The bits that are 1 of a key, of so many."""
    h = key_hash(key)
    d = int(format(h, "032b")[-17:] + format(h, "032b")[:-17], 2)
    return [(h + j * d) % WORD % total for j in range(probes)]


def bloom_piece(keys, bits):
    """The filter's piece of these keys."""
    if not keys:
        return b""
    size = -(-max(64, len(keys) * bits) // 8)
    probes = max(1, 69 * bits // 100)
    number = 0
    for key in keys:
        for bit in bits_of(key, probes, 8 * size):
            number |= 1 << bit
    return number.to_bytes(size, "little") + bytes([probes])


def read_varint(data, at):
    number = 0
    shift = 0
    while data[at] >= 128:
        number |= (data[at] & 127) << shift
        shift += 7
        at += 1
    return number | data[at] << shift, at + 1


class Block:
    """A block that stands in a file from begin on, so many bytes long."""

    def __init__(self, file, begin, length):
        content = file[begin:begin + length]
        if file[begin + length:begin + length + 5] != sealed(content):
            raise ValueError("the five bytes behind the block are wrong")
        self.begin = begin
        self.length = length
        self.end = begin + length + 5
        count = struct.unpack("<I", content[-4:])[0]
        body_end = length - 4 - 4 * count
        self.restarts = list(struct.unpack(f"<{count}I", content[body_end:-4]))
        self.places = []
        self.shared = []
        self.keys = []
        self.values = []
        self.read_entries(content[:body_end])

    def read_entries(self, body):
        at = 0
        key = b""
        while at < len(body):
            self.places.append(at)
            shared, at = read_varint(body, at)
            more, at = read_varint(body, at)
            size, at = read_varint(body, at)
            key = key[:shared] + body[at:at + more]
            self.shared.append(shared)
            self.keys.append(key)
            self.values.append(body[at + more:at + more + size])
            at += more + size
        if at != len(body):
            raise ValueError("the last entry goes over the block's end")


class Filter:
    def __init__(self, file, begin, length):
        content = file[begin:begin + length]
        if file[begin + length:begin + length + 5] != sealed(content):
            raise ValueError("the five bytes behind the filter are wrong")
        self.begin = begin
        self.end = begin + length + 5
        self.last_byte = content[-1]
        places_begin = struct.unpack("<I", content[-5:-1])[0]
        count = (length - 5 - places_begin) // 4
        places = list(struct.unpack(f"<{count}I", content[places_begin:-5])) + [places_begin]
        self.pieces = [content[places[i]:places[i + 1]] for i in range(count)]


class Table:
    """What a table that has been made holds, block by block."""

    def __init__(self, answer):
        file = bytes(answer[1:])
        if answer[0] != len(file) or file[-8:] != MAGIC:
            raise ValueError("no table")
        at = len(file) - 48
        handles = []
        for _ in range(4):
            number, at = read_varint(file, at)
            handles.append(number)
        self.padding = file[at:-8]
        self.file = file
        self.meta = Block(file, handles[0], handles[1])
        self.index = Block(file, handles[2], handles[3])
        self.data = [self.block_of(value) for value in self.index.values]
        self.filter = None
        if self.meta.keys:
            begin, at = read_varint(self.meta.values[0], 0)
            length, at = read_varint(self.meta.values[0], at)
            self.filter = Filter(file, begin, length)

    def block_of(self, value):
        begin, at = read_varint(value, 0)
        length, at = read_varint(value, at)
        if at != len(value):
            raise ValueError("no handle")
        return Block(self.file, begin, length)

    def entries(self):
        return [pair for block in self.data for pair in zip(block.keys, block.values)]

    def expected_pieces(self, bits):
        """The pieces that the document asks for where the data blocks are."""
        end = self.data[-1].end if self.data else 0
        count = end // 2048
        if any(block.begin >= 2048 * count for block in self.data):
            count += 1
        pieces = []
        for i in range(count):
            keys = [key for block in self.data if block.begin // 2048 == i for key in block.keys]
            pieces.append(bloom_piece(keys, bits))
        return pieces
