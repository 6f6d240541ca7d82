"""Promise 2: how entries are packed into blocks, and what the index and the table's end say of them."""
import unittest

from keylogs.desk import make
from tests.helper import FILTER_NAME, Table, noise, rows_of

LONGEST = 16777216


def table(interval, block, bits, entries):
    return Table(make(interval, block, bits, LONGEST, rows_of(entries)))


def common(one, other):
    count = 0
    while count < min(len(one), len(other)) and one[count] == other[count]:
        count += 1
    return count


class PackingTest(unittest.TestCase):
    def check_blocks(self, blocks, interval):
        for block in blocks:
            for i, key in enumerate(block.keys):
                expected = common(block.keys[i - 1], key) if i % interval else 0
                self.assertEqual(block.shared[i], expected)
            self.assertEqual(block.restarts, block.places[::interval] or [0])

    def check_all(self, keys):
        entries = [(key, key[:3]) for key in keys]
        for interval in (1, 2, 3, 4, 7, 16, 63, 64):
            for block in (64, 500, 65536):
                made = table(interval, block, 0, entries)
                with self.subTest(interval=interval, block=block):
                    self.assertEqual(made.entries(), entries)
                    self.check_blocks(made.data, interval)
                    self.check_blocks([made.index], 1)

    def test_much_in_common(self):
        self.check_all([b"a long beginning " + b"%03d" % i for i in range(130)])

    def test_nothing_in_common(self):
        self.check_all([bytes([i, 7, 7]) for i in range(200)])

    def test_keys_that_begin_with_one_another(self):
        self.check_all([b"x" * i for i in range(130)])

    def test_in_common_varies(self):
        self.check_all(sorted({noise(i % 6, i + 1) for i in range(300)}))

    def test_long_beginnings_in_common(self):
        for length in (1000, 1023, 1024, 1025, 2047, 2048, 2049, 5000):
            begin = noise(length, length)
            ends = (b"", b"a", b"b", b"ba", noise(1024), noise(1024) + b"a", noise(1100))
            keys = sorted({begin + end for end in ends})
            made = table(16, 65536, 0, [(key, b"") for key in keys])
            self.assertEqual(made.entries(), [(key, b"") for key in keys])
            self.check_blocks(made.data, 16)

    def test_as_many_entries_as_the_interval_and_one_more(self):
        for interval in (1, 2, 5, 64):
            for count in (1, interval, interval + 1, 2 * interval, 2 * interval + 1):
                made = table(interval, 65536, 0, [(b"k%03d" % i, b"") for i in range(count)])
                self.assertEqual(len(made.data), 1)
                self.assertEqual(len(made.data[0].restarts), -(-count // interval))

    def test_each_block_begins_its_restarts_anew(self):
        made = table(2, 64, 0, [(b"same%02d" % i, b"v" * 9) for i in range(40)])
        self.assertGreater(len(made.data), 3)
        for block in made.data:
            self.assertEqual(block.shared[0], 0)
            self.assertEqual(block.restarts[0], 0)
        self.check_blocks(made.data, 2)

    def test_lengths_of_several_bytes(self):
        key = noise(200, 2)
        entries = [(key[:127], b"v" * 127), (key[:128], b"v" * 128), (key + b"x" * 300, b"w" * 16383),
                   (key + b"x" * 300 + b"y" * 128, b"w" * 16384)]
        made = table(16, 65536, 0, entries)
        self.assertEqual(made.entries(), entries)
        self.assertEqual(made.data[0].shared, [0, 127, 128, 500])
        self.assertEqual(made.data[0].places, [0, 3 + 127 + 127, 257 + 4 + 1 + 128, 390 + 6 + 372 + 16383])
        self.assertEqual(made.data[0].length, 17151 + 7 + 128 + 16384 + 8)


class BlockSizeTest(unittest.TestCase):
    def counts(self, interval, block, entries):
        made = table(interval, block, 0, entries)
        self.assertEqual(made.entries(), entries)
        return [len(part.keys) for part in made.data], [part.length for part in made.data]

    def test_one_entry_just_block_bytes_and_one_fewer(self):
        following = [(b"b", b""), (b"c", b"")]
        for block in (64, 100, 127):
            just = (b"a", b"v" * (block - 12))
            self.assertEqual(self.counts(16, block, [just] + following), ([1, 2], [block, 16]))
            fewer = (b"a", b"v" * (block - 13))
            self.assertEqual(self.counts(16, block, [fewer] + following), ([2, 1], [block + 3, 12]))
            more = (b"a", b"v" * (block - 11))
            self.assertEqual(self.counts(16, block, [more] + following), ([1, 2], [block + 1, 16]))

    def test_restarts_count(self):
        # Two entries of 4 + v bytes: 8 bytes more with one restart, 12 with two.
        following = [(b"c", b"")]
        for interval, rest in ((1, 12), (2, 8)):
            value = b"v" * (64 - rest - 8)
            entries = [(b"a", b""), (b"b", value)]
            self.assertEqual(self.counts(interval, 64, entries + following), ([2, 1], [64, 12]))
            entries = [(b"a", b""), (b"b", value[1:])]
            self.assertEqual(self.counts(interval, 64, entries + following)[0], [3])

    def test_largest_block(self):
        following = [(b"b", b"")]
        just = (b"a", b"v" * (65536 - 14))
        self.assertEqual(self.counts(16, 65536, [just] + following), ([1, 1], [65536, 12]))
        fewer = (b"a", b"v" * (65536 - 15))
        self.assertEqual(self.counts(16, 65536, [fewer] + following), ([2], [65539]))

    def test_full_last_block_leaves_none_behind(self):
        self.assertEqual(self.counts(16, 64, [(b"a", b"v" * 52)]), ([1], [64]))
        self.assertEqual(self.counts(16, 64, [(b"a", b"v" * 52), (b"b", b"w" * 53)]), ([1, 1], [64, 65]))

    def test_last_block_not_full(self):
        entries = [(b"%03d" % i, b"v" * 20) for i in range(10)]
        self.assertEqual(self.counts(16, 64, entries)[0], [3, 3, 3, 1])

    def test_entries_longer_than_a_block(self):
        entries = [(b"a", b"v" * 5000), (b"b", b"v" * 4000), (b"c", b"v" * 1)]
        self.assertEqual(self.counts(16, 64, entries)[0], [1, 1, 1])

    def test_blocks_stand_one_behind_another(self):
        made = table(4, 150, 10, [(b"%05d" % i, b"v" * (i % 40)) for i in range(300)])
        at = 0
        for block in made.data:
            self.assertEqual(block.begin, at)
            at = block.end
        self.assertEqual(made.filter.begin, at)
        self.assertEqual(made.meta.begin, made.filter.end)
        self.assertEqual(made.index.begin, made.meta.end)
        self.assertEqual(len(made.file), made.index.end + 48)


class MetaAndEndTest(unittest.TestCase):
    def test_meta(self):
        entries = [(b"%05d" % i, b"v" * 30) for i in range(100)]
        for count in (0, 1, 100):
            made = table(16, 256, 0, entries[:count])
            self.assertEqual((made.meta.keys, made.meta.restarts, made.meta.length), ([], [0], 8))
            self.assertEqual(made.meta.begin, made.data[-1].end if count else 0)
            for bits in (1, 20):
                made = table(16, 256, bits, entries[:count])
                self.assertEqual(made.meta.keys, [FILTER_NAME])
                self.assertEqual(made.meta.restarts, [0])

    def test_padding_is_of_zeros(self):
        for count in (0, 1, 50, 2000):
            made = table(16, 256, 10, [(b"%05d" % i, b"v" * 30) for i in range(count)])
            self.assertEqual(made.padding, bytes(len(made.padding)))

    def test_index_is_written_with_interval_one(self):
        for interval in (1, 2, 64):
            made = table(interval, 64, 0, [(b"same%02d" % i, b"v" * 60) for i in range(30)])
            self.assertEqual(len(made.index.keys), 30)
            self.assertEqual(made.index.shared, [0] * 30)
            self.assertEqual(made.index.restarts, made.index.places)


class IndexKeyTest(unittest.TestCase):
    def between(self, last, following):
        made = table(16, 64, 0, [(last, b"v" * 64), (following, b"v" * 64)])
        self.assertEqual(len(made.data), 2)
        return made.index.keys[0]

    def behind(self, last):
        return table(16, 64, 0, [(last, b"")]).index.keys[-1]

    def test_a_byte_that_can_be_raised(self):
        self.assertEqual(self.between(b"abc", b"abe"), b"abd")
        self.assertEqual(self.between(b"abc", b"abz"), b"abd")
        self.assertEqual(self.between(b"abcxyz", b"abe"), b"abd")
        self.assertEqual(self.between(b"abc", b"abexyz"), b"abd")
        self.assertEqual(self.between(b"a", b"c"), b"b")
        self.assertEqual(self.between(b"azz", b"caa"), b"b")
        self.assertEqual(self.between(b"\x00\xff", b"\x02"), b"\x01")
        self.assertEqual(self.between(b"k\x7fz", b"k\x81"), b"k\x80")
        self.assertEqual(self.between(b"\xfd\x07", b"\xff"), b"\xfe")

    def test_a_byte_that_cannot_be_raised(self):
        self.assertEqual(self.between(b"abc", b"abd"), b"abc")
        self.assertEqual(self.between(b"abcxyz", b"abd"), b"abcxyz")
        self.assertEqual(self.between(b"abc", b"abdxyz"), b"abc")
        self.assertEqual(self.between(b"a\x01", b"b\xff"), b"a\x01")
        self.assertEqual(self.between(b"\xfe\x07", b"\xff"), b"\xfe\x07")
        self.assertEqual(self.between(b"\x00\x00", b"\x01\x09"), b"\x00\x00")

    def test_one_key_has_ended(self):
        self.assertEqual(self.between(b"", b"c"), b"")
        self.assertEqual(self.between(b"ab", b"abc"), b"ab")
        self.assertEqual(self.between(b"ab", b"ab\xff"), b"ab")
        self.assertEqual(self.between(b"\xff", b"\xff\xff"), b"\xff")

    def test_last_block(self):
        self.assertEqual(self.behind(b"abc"), b"b")
        self.assertEqual(self.behind(b"\x00"), b"\x01")
        self.assertEqual(self.behind(b"\xfe\xff"), b"\xff")
        self.assertEqual(self.behind(b"\xff\x00\x07"), b"\xff\x01")
        self.assertEqual(self.behind(b"\xff\xff\x07\x09"), b"\xff\xff\x08")
        self.assertEqual(self.behind(b"\xff\xff\xfe"), b"\xff\xff\xff")

    def test_last_block_of_255s_alone(self):
        for length in (1, 2, 300):
            self.assertEqual(self.behind(b"\xff" * length), b"\xff" * length)

    def test_last_block_with_an_empty_key_alone(self):
        self.assertEqual(self.behind(b""), b"")

    def test_long_beginnings_in_common(self):
        for length in (1023, 1024, 1025, 2048, 5000):
            begin = noise(length, length)
            self.assertEqual(self.between(begin + b"a", begin + b"c"), begin + b"b")
            self.assertEqual(self.between(begin + b"a", begin + b"b"), begin + b"a")
            self.assertEqual(self.between(begin, begin + b"b"), begin)
            self.assertEqual(self.behind(b"\xff" * length + b"a"), b"\xff" * length + b"b")

    def test_last_key_counts_not_the_first(self):
        entries = [(b"aa", b""), (b"ab", b"v" * 64), (b"ad", b""), (b"ag", b"")]
        self.assertEqual(table(16, 64, 0, entries).index.keys, [b"ac", b"b"])

    def test_several_blocks(self):
        entries = [(key, b"v" * 64) for key in (b"", b"b", b"bcd", b"bcf", b"bz", b"c", b"\xff", b"\xff\xff")]
        self.assertEqual(
            table(16, 64, 0, entries).index.keys,
            [b"", b"b", b"bce", b"bd", b"bz", b"d", b"\xff", b"\xff\xff"])


if __name__ == "__main__":
    unittest.main()
