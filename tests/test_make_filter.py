"""Promise 2: the filter."""
import unittest

from keylogs.desk import make
from tests.helper import Table, bloom_piece, key_hash, noise, rows_of

LONGEST = 16777216


def table(block, bits, entries):
    return Table(make(16, block, bits, LONGEST, rows_of(entries)))


def one_block(keys, bits):
    """The only piece of a table whose keys stand in one data block."""
    pieces = table(65536, bits, [(key, b"") for key in sorted(keys)]).filter.pieces
    if len(pieces) > 1 and any(pieces[1:]):
        raise ValueError("more than one piece has keys")
    return pieces[0]


class HashTest(unittest.TestCase):
    """h shows in the bits that a single key sets."""

    def test_well_known_hashes(self):
        known = {"": 0xBC9F1D34, "62": 0xEF1345C4, "c397": 0x5B663814, "e299a5": 0x323C078F, "e180b932": 0xED21633A}
        for key, h in known.items():
            self.assertEqual(key_hash(bytes.fromhex(key)), h)

    def test_written_out(self):
        # h of the key 62H is EF1345C4H, d is A2E27789H; the first two bits: 4 (68 by 64), then 13 (4 + 9).
        self.assertEqual(one_block([b"\x62"], 1), bytes([16, 0, 0, 0, 0, 0, 0, 0, 1]))
        self.assertEqual(one_block([b"\x62"], 3), bytes([16, 32, 0, 0, 0, 0, 0, 0, 2]))

    def test_each_length(self):
        for length in range(41):
            for seed in (1, 2, 3):
                key = noise(length, seed)
                self.assertEqual(one_block([key], 20), bloom_piece([key], 20))

    def test_low_and_high_bytes_at_each_place(self):
        for length in range(1, 9):
            for place in range(length):
                for byte in (0, 1, 127, 128, 255):
                    key = bytes([9] * place + [byte] + [9] * (length - place - 1))
                    self.assertEqual(one_block([key], 20), bloom_piece([key], 20))

    def test_long_key(self):
        for length in (65532, 65533, 65534, 65535):
            key = noise(length, 4)
            self.assertEqual(one_block([key], 20), bloom_piece([key], 20))


class PieceTest(unittest.TestCase):
    def test_how_many_bits_each_key_sets(self):
        expected = [1, 1, 2, 2, 3, 4, 4, 5, 6, 6, 7, 8, 8, 9, 10, 11, 11, 12, 13, 13]
        for bits in range(1, 21):
            self.assertEqual(one_block([b"key"], bits)[-1], expected[bits - 1])

    def test_few_and_many_keys(self):
        for bits in range(1, 21):
            for count in (1, 2, 3, 4, 7, 8, 9, 63, 64, 65, 100):
                keys = [noise(5, 3 * i + 1) + b"%d" % i for i in range(count)]
                piece = one_block(keys, bits)
                with self.subTest(bits=bits, count=count):
                    self.assertEqual(len(piece), (max(64, count * bits) + 7) // 8 + 1)
                    self.assertEqual(piece, bloom_piece(keys, bits))

    def test_thousands_of_keys(self):
        keys = [b"%05d" % i for i in range(5000)]
        for bits in (1, 20):
            self.assertEqual(one_block(keys, bits), bloom_piece(keys, bits))

    def test_no_filter(self):
        self.assertIsNone(table(4096, 0, [(b"a", b"")]).filter)
        self.assertIsNone(table(4096, 0, []).filter)

    def test_no_rows_no_pieces(self):
        made = table(4096, 10, [])
        self.assertEqual((made.filter.pieces, made.filter.begin, made.filter.end), ([], 0, 10))

    def test_empty_key(self):
        self.assertEqual(one_block([b""], 10), bloom_piece([b""], 10))
        self.assertEqual(one_block([b"", b"x"], 10), bloom_piece([b"", b"x"], 10))


def block_of(key, length):
    """The entry with a key of one byte that fills a data block of so many bytes with its five."""
    for width in (1, 2, 3):
        size = length - 5 - 8 - 3 - width
        if size >= 0 and (size.bit_length() + 6) // 7 == width:
            return key, b"v" * size
    raise ValueError("no such entry")


class PiecesTest(unittest.TestCase):
    def check(self, lengths, bits=10):
        """Data blocks of just these lengths; which of them each piece is of."""
        entries = [block_of(bytes([i]), length) for i, length in enumerate(lengths)]
        made = table(64, bits, entries)
        self.assertEqual([block.end - block.begin for block in made.data], lengths)
        self.assertEqual(made.filter.last_byte, 11)
        self.assertEqual(made.filter.begin, sum(lengths))
        self.assertEqual(made.filter.pieces, made.expected_pieces(bits))
        return [[i for i in range(len(lengths)) if piece == bloom_piece([bytes([i])], bits)]
                if len(piece) > 0 else None for piece in made.filter.pieces]

    def test_one_block(self):
        self.assertEqual(self.check([100]), [[0]])
        for length in (2047, 2048, 2049, 4095):
            self.assertEqual(self.check([length]), [[0]])
        for length in (4096, 4097, 6143):
            self.assertEqual(self.check([length]), [[0], None])
        for length in (6144, 6145):
            self.assertEqual(self.check([length]), [[0], None, None])
        self.assertEqual(self.check([20480]), [[0]] + [None] * 9)

    def test_second_block_begins_at_a_multiple(self):
        self.assertEqual(self.check([2048, 100]), [[0], [1]])
        self.assertEqual(self.check([2048, 2047]), [[0], [1]])
        self.assertEqual(self.check([2048, 2048]), [[0], [1]])
        self.assertEqual(self.check([2048, 2049]), [[0], [1]])
        self.assertEqual(self.check([2048, 4095]), [[0], [1]])
        self.assertEqual(self.check([2048, 4096]), [[0], [1], None])

    def test_second_block_begins_behind_a_multiple(self):
        self.assertEqual(self.check([2049, 100]), [[0], [1]])
        self.assertEqual(self.check([2049, 2047]), [[0], [1]])
        self.assertEqual(self.check([2049, 2048]), [[0], [1]])
        self.assertEqual(self.check([4095, 100]), [[0], [1]])

    def test_pieces_between_are_empty(self):
        self.assertEqual(self.check([6000, 100]), [[0], None, [1]])
        self.assertEqual(self.check([6143, 100]), [[0], None, [1]])
        self.assertEqual(self.check([6144, 100]), [[0], None, None, [1]])
        self.assertEqual(self.check([10000, 9000, 3000]), [[0], None, None, None, [1], None, None, None, None, [2]])

    def test_blocks_that_begin_in_one_piece(self):
        entries = [block_of(b"\x00", 1000), block_of(b"\x01", 1047), block_of(b"\x02", 100), block_of(b"\x03", 100)]
        for bits in (1, 10, 20):
            made = table(64, bits, entries)
            self.assertEqual([block.begin for block in made.data], [0, 1000, 2047, 2147])
            first = bloom_piece([b"\x00", b"\x01", b"\x02"], bits)
            self.assertEqual(made.filter.pieces, [first, bloom_piece([b"\x03"], bits)])

    def test_last_block_shares_a_piece_and_ends_around_a_multiple(self):
        both = bloom_piece([b"\x00", b"\x01"], 10)
        for length in (1047, 1048, 1049):
            made = table(64, 10, [block_of(b"\x00", 1000), block_of(b"\x01", length)])
            self.assertEqual(made.filter.pieces, [both])
        for length in (3095, 3096, 3097):
            made = table(64, 10, [block_of(b"\x00", 1000), block_of(b"\x01", length)])
            self.assertEqual(made.filter.pieces, [both] if length < 3096 else [both, b""])

    def test_many_blocks(self):
        entries = [(b"%05d" % i, noise(i % 90, i + 1)) for i in range(1200)]
        for block in (64, 500, 2000, 2043, 4096):
            for bits in (1, 10, 20):
                made = table(block, bits, entries)
                self.assertEqual(made.filter.pieces, made.expected_pieces(bits))
                self.assertEqual(made.filter.last_byte, 11)


if __name__ == "__main__":
    unittest.main()
