"""Promise 5: may."""
import unittest

from keylogs import desk
from tests.forge import File, block, entry, filter_of, packed, table_of
from tests.helper import FILTER_NAME, Table, bits_of, bloom_piece, noise, rows_of
from tests.strict import strict

LONGEST = 16777216
NEVER = bytes(8) + b"\6"
ALWAYS = b"\xff" * 8 + b"\6"


def may(table, key):
    return desk.may(table, list(key))


def spread(begins, keys, pieces, index_keys=None):
    """A table with data blocks of one key each that begin at these places, and a filter of these pieces."""
    file = File()
    index = []
    for begin, key, index_key in zip(begins, keys, index_keys or keys):
        file.gap(bytes(begin - len(file.out)))
        index.append((index_key, file.put(block([(key, b"")]))))
    meta = [] if pieces is None else [(FILTER_NAME, file.put(filter_of(pieces)))]
    meta_handle = file.put(block(meta))
    return file.ended(meta_handle, file.put(block(index)))


class RefusalsTest(unittest.TestCase):
    def test_key(self):
        table = table_of([[(b"a", b"")]], [b"\xff"])
        self.assertEqual(may(table, b"k" * 65535), [1])
        self.assertEqual(may(table, b"k" * 65536), [-2])
        self.assertEqual(may(table, b"k" * 66000), [-2])
        self.assertEqual(may([], b"k" * 65536), [-2])
        self.assertEqual(may(table[:-1], b"k" * 65536), [-2])

    def test_no_table(self):
        table = table_of([[(b"a", b"")]])
        for wrong in ([], table[:-1], [0] + table, list(noise(300))):
            for key in (b"", b"a", b"b", b"k" * 65535):
                self.assertEqual(may(wrong, key), [-3])

    def test_faults_that_the_filter_has_no_part_in(self):
        broken = packed([entry(0, b"c"), entry(0, b"b")])
        for key in (b"", b"a", b"b", b"c", b"d"):
            self.assertEqual(may(table_of([[(b"a", b"1")], broken], [b"a", b"c"]), key), [-3])
            self.assertEqual(may(table_of([[(b"a", b"1")]], sieve=filter_of([b"ab"], [3])), key), [-3])


class MadeTest(unittest.TestCase):
    def test_every_key_is_1(self):
        pairs = [(b"%03d" % (3 * i), noise(i % 60, i + 1)) for i in range(160)]
        for interval, size, bits in ((1, 64, 1), (3, 500, 10), (16, 4096, 20), (16, 65536, 3)):
            table = desk.make(interval, size, bits, LONGEST, rows_of(pairs))[1:]
            for key, value in pairs[::3] + pairs[-1:]:
                self.assertEqual(may(table, key), [1])

    def test_keys_that_are_not_there(self):
        pairs = [(b"%03d" % (3 * i), noise(i % 60, i + 1)) for i in range(160)]
        given = desk.make(4, 300, 4, LONGEST, rows_of(pairs))
        table = given[1:]
        self.assertGreater(len(Table(given).filter.pieces), 2)
        read = strict(table)
        said = []
        for number in range(0, 480):
            key = b"%03d" % number
            if number % 3 != 0:
                said.extend(may(table, key))
                self.assertEqual(said[-1], read.may(key))
        # The filter is right of most of them, and is wrong of some.
        self.assertGreater(said.count(0), 200)
        self.assertGreater(said.count(1), 10)

    def test_no_filter(self):
        pairs = [(b"b", b""), (b"d", b""), (b"f", b"x" * 100), (b"h", b"")]
        table = desk.make(1, 64, 0, LONGEST, rows_of(pairs))[1:]
        for key in (b"", b"a", b"b", b"c", b"e", b"f", b"fzz", b"g", b"h", b"hzz", b"i"):
            self.assertEqual(may(table, key), [1])
        # The last index key is i.
        for key in (b"i\0", b"j", b"\xff"):
            self.assertEqual(may(table, key), [0])

    def test_empty_table(self):
        for bits in (0, 1, 10):
            table = desk.make(16, 4096, bits, LONGEST, [])[1:]
            for key in (b"", b"a", b"\xff" * 10):
                self.assertEqual(may(table, key), [0])

    def test_behind_the_last_index_key(self):
        for bits in (0, 10):
            table = desk.make(16, 4096, bits, LONGEST, rows_of([(b"a", b""), (b"ab", b"")]))[1:]
            for key in (b"b\0", b"bb", b"c", b"\xff"):
                self.assertEqual(may(table, key), [0])
        self.assertEqual(may(table_of([[(b"a", b"")]], sieve=filter_of([ALWAYS])), b"a\0"), [0])
        self.assertEqual(may(table_of([[(b"a", b"")]], sieve=filter_of([])), b"a\0"), [0])
        self.assertEqual(may(table_of([[(b"a", b"")]], sieve=filter_of([b"\x1f" * 9])), b"b"), [0])


class WhichBlockTest(unittest.TestCase):
    """The block is that of the first index key from the key on."""

    def answers(self, pieces, index_keys):
        table = spread([0, 2048, 4096], [b"b", b"f", b"k"], pieces, index_keys)
        keys = [b"", b"a", b"b", b"b\0", b"d", b"d\0", b"e", b"f", b"g", b"h", b"h\0", b"j", b"k", b"l", b"m", b"m\0"]
        return "".join(str(may(table, key)[0]) for key in keys)

    def test_first_second_later(self):
        self.assertEqual(self.answers([ALWAYS, NEVER, NEVER], [b"d", b"h", b"m"]), "1111100000000000")
        self.assertEqual(self.answers([NEVER, ALWAYS, NEVER], [b"d", b"h", b"m"]), "0000011111000000")
        self.assertEqual(self.answers([NEVER, NEVER, ALWAYS], [b"d", b"h", b"m"]), "0000000000111110")
        self.assertEqual(self.answers([ALWAYS, ALWAYS, ALWAYS], [b"d", b"h", b"m"]), "1111111111111110")
        self.assertEqual(self.answers([NEVER, NEVER, NEVER], [b"d", b"h", b"m"]), "0000000000000000")

    def test_index_keys_that_are_last_keys(self):
        self.assertEqual(self.answers([ALWAYS, NEVER, ALWAYS], [b"b", b"f", b"k"]), "1110000011111000")

    def test_no_filter(self):
        self.assertEqual(self.answers(None, [b"d", b"h", b"m"]), "1111111111111110")
        self.assertEqual(self.answers(None, [b"b", b"f", b"k"]), "1111111111111000")

    def test_pieces_that_are_not_there(self):
        self.assertEqual(self.answers([], [b"d", b"h", b"m"]), "1111111111111110")
        self.assertEqual(self.answers([NEVER], [b"d", b"h", b"m"]), "0000011111111110")
        self.assertEqual(self.answers([NEVER, NEVER], [b"d", b"h", b"m"]), "0000000000111110")
        self.assertEqual(self.answers([NEVER, NEVER, NEVER, ALWAYS], [b"d", b"h", b"m"]), "0000000000000000")


class WherePieceTest(unittest.TestCase):
    """The piece is that of the 2048 bytes in which the block begins."""

    def test_by_where_it_begins(self):
        for begin in (0, 1, 2047, 2048, 2049, 4095, 4096, 6143, 6144, 20480, 65536, 90000):
            for others, own in ((NEVER, ALWAYS), (ALWAYS, NEVER)):
                pieces = [others] * 50
                pieces[begin // 2048] = own
                table = spread([begin], [b"a"], pieces)
                self.assertEqual(may(table, b"a"), [1 if own == ALWAYS else 0])
                self.assertEqual(may(table, b""), [1 if own == ALWAYS else 0])

    def test_fewer_pieces_than_the_place_asks(self):
        for begin in (2048, 4095, 4096, 20480, 90000):
            stretch = begin // 2048
            self.assertEqual(may(spread([begin], [b"a"], [NEVER] * stretch), b"a"), [1])
            self.assertEqual(may(spread([begin], [b"a"], [NEVER] * (stretch + 1)), b"a"), [0])
            self.assertEqual(may(spread([begin], [b"a"], [NEVER]), b"a"), [1])
            self.assertEqual(may(spread([begin], [b"a"], []), b"a"), [1])

    def test_two_blocks_of_one_piece(self):
        piece = bloom_piece([b"a", b"b"], 10)
        table = spread([0, 30], [b"a", b"b"], [piece])
        self.assertEqual([may(table, key) for key in (b"a", b"b")], [[1], [1]])
        self.assertEqual([may(table, key) for key in (b"", b"aa", b"aaa")], [[0], [0], [0]])


class PieceTest(unittest.TestCase):
    """What a piece says of a key."""

    def said(self, piece, key=b"a"):
        table = spread([0], [b"a"], [piece], [b"\xff"])
        return may(table, key)

    def test_fewer_than_2_bytes(self):
        self.assertEqual(self.said(b""), [0])
        for probes in (0, 1, 30, 31, 255):
            self.assertEqual(self.said(bytes([probes])), [0])

    def test_p(self):
        for size in (1, 2, 8, 100):
            for probes in (0, 31, 32, 128, 255):
                self.assertEqual(self.said(bytes(size) + bytes([probes])), [1])
                self.assertEqual(self.said(b"\xff" * size + bytes([probes])), [1])
            for probes in (1, 2, 6, 29, 30):
                self.assertEqual(self.said(bytes(size) + bytes([probes])), [0])
                self.assertEqual(self.said(b"\xff" * size + bytes([probes])), [1])

    def test_its_own_bits(self):
        for key in (b"", b"a", b"ab", b"abc", b"abcd", b"abcde", b"\xfe" * 7, b"k" * 65535):
            for size in (1, 2, 3, 8, 9, 1000):
                for probes in (1, 2, 5, 30):
                    bits = sorted(set(bits_of(key, probes, 8 * size)))
                    number = sum(1 << bit for bit in bits)
                    end = bytes([probes])
                    self.assertEqual(self.said(number.to_bytes(size, "little") + end, key), [1])
                    others = 2 ** (8 * size) - 1 - number
                    self.assertEqual(self.said(others.to_bytes(size, "little") + end, key), [0])
                    for bit in (bits[0], bits[-1], bits[len(bits) // 2]):
                        missing = 2 ** (8 * size) - 1 - (1 << bit)
                        self.assertEqual(self.said(missing.to_bytes(size, "little") + end, key), [0])

    def test_last_bit_of_p_only(self):
        # Of the bits of p 2 the first is there, the second isn't.
        first, second = bits_of(b"abc", 2, 80)
        self.assertNotEqual(first, second)
        self.assertEqual(self.said((1 << first).to_bytes(10, "little") + b"\1", b"abc"), [1])
        self.assertEqual(self.said((1 << first).to_bytes(10, "little") + b"\2", b"abc"), [0])
        self.assertEqual(self.said((1 << first | 1 << second).to_bytes(10, "little") + b"\2", b"abc"), [1])

    def test_places_that_leave_bytes_out(self):
        content = noise(4, 9) + ALWAYS + NEVER
        table = table_of([[(b"a", b"")]], sieve=filter_of([content], [4, 13]))
        self.assertEqual(may(table, b"a"), [1])
        table = table_of([[(b"a", b"")]], sieve=filter_of([content], [13]))
        self.assertEqual(may(table, b"a"), [0])
        table = table_of([[(b"a", b"")]], sieve=filter_of([content], [22]))
        self.assertEqual(may(table, b"a"), [0])


class FewBytesManyKeysTest(unittest.TestCase):
    def test_long_keys(self):
        parts = [entry(0, b"k" * 40000)] + [entry(40000 + i, b"k") for i in range(8000)]
        piece = bloom_piece([b"k" * 48000], 10)
        table = table_of([packed(parts)], [b"l"], filter_of([piece]))
        self.assertLessEqual(len(table), 100000)
        self.assertEqual(may(table, b"k" * 48000), [1])
        self.assertEqual(may(table, b"k" * 47999), [0])
        self.assertEqual(may(table, b"l\0"), [0])


if __name__ == "__main__":
    unittest.main()
