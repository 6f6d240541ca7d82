"""Promise 3, what is a table: count of tables that are made, and of such as never are."""
import unittest

from keylogs import desk
from tests.forge import File, block, entry, filter_of, handle, packed, table_of, varint
from tests.helper import FILTER_NAME, noise, rows_of
from tests.strict import strict

LONGEST = 16777216
TWO_BLOCKS = [[(b"a", b"1"), (b"ab", b"2")], [(b"c", b"3"), (b"d", b"4"), (b"e", b"5")]]


def made(entries, interval, size, bits):
    return desk.make(interval, size, bits, LONGEST, rows_of(entries))[1:]


class MadeTest(unittest.TestCase):
    """Tables that are made: as many entries as there are rows."""

    def counted(self, entries):
        for interval in (1, 2, 16, 64):
            for size in (64, 300, 4096, 65536):
                for bits in (0, 1, 10, 20):
                    table = made(entries, interval, size, bits)
                    self.assertEqual(desk.count(table), [len(entries)])

    def test_no_rows(self):
        self.counted([])

    def test_one_row(self):
        self.counted([(b"", b"")])
        self.counted([(b"a", b"")])
        self.counted([(b"", b"a")])
        self.counted([(b"\xff" * 300, noise(300))])

    def test_many_rows(self):
        self.counted([(b"%03d" % i, noise(i % 7, i + 1)) for i in range(150)])
        self.counted([(b"k" * i, b"") for i in range(60)])
        self.counted([(bytes([i]), bytes([i])) for i in range(256)])

    def test_long(self):
        self.assertEqual(desk.count(made([(b"k" * 65535, noise(30000))], 16, 4096, 10)), [1])
        entries = [(i.to_bytes(2, "big"), b"") for i in range(7000)]
        self.assertEqual(desk.count(made(entries, 16, 4096, 10)), [7000])
        self.assertEqual(desk.count(made(entries[:3000], 1, 64, 10)), [3000])


class OtherTablesTest(unittest.TestCase):
    """Tables that are never made, but are tables."""

    def counted(self, table, entries):
        self.assertEqual(desk.count(table), [len(entries)])
        self.assertEqual(strict(table).entries(), entries)

    def test_by_hand(self):
        self.counted(table_of(TWO_BLOCKS), TWO_BLOCKS[0] + TWO_BLOCKS[1])
        self.counted(table_of([]), [])

    def test_long_varints(self):
        entries = [(b"a", b"1"), (b"ab", b""), (b"b", b"2")]
        for width in range(1, 11):
            file = File()
            data = file.put(block(entries, 2, width), width=width)
            sieve = file.put(filter_of([b"\0\1"]), width=width)
            meta = file.put(block([(FILTER_NAME, sieve)], 1, width), width=width)
            index = file.put(block([(b"b", data)], 1, width), width=width)
            self.counted(file.ended(meta, index), entries)

    def test_less_in_common_than_there_is(self):
        content = packed([entry(0, b"abcd"), entry(2, b"ce"), entry(0, b"abcf"), entry(3, b"fg")])
        self.counted(table_of([content], [b"x"]), [(b"abcd", b""), (b"abce", b""), (b"abcf", b""), (b"abcfg", b"")])

    def test_restarts_elsewhere(self):
        parts = [entry(0, b"a"), entry(0, b"b", b"x"), entry(1, b"b"), entry(0, b"c"), entry(0, b"d")]
        places = [sum(map(len, parts[:i])) for i in range(len(parts))]
        entries = [(b"a", b""), (b"b", b"x"), (b"bb", b""), (b"c", b""), (b"d", b"")]
        for chosen in ([], [1], [3], [4], [1, 3], [1, 4], [3, 4], [1, 3, 4]):
            content = packed(parts, [0] + [places[i] for i in chosen])
            self.counted(table_of([content], [b"d"]), entries)

    def test_index_and_meta_with_common_beginnings(self):
        file = File()
        handles = [file.put(block([pair])) for pair in [(b"aa", b""), (b"ab", b""), (b"ac", b"")]]
        index = packed([entry(0, b"aa", handles[0]), entry(1, b"b", handles[1]), entry(1, b"c", handles[2])])
        self.counted(file.ended(file.put(block([])), file.put(index)), [(b"aa", b""), (b"ab", b""), (b"ac", b"")])

    def test_behind_the_handles(self):
        file = File()
        data = file.put(block([(b"a", b"")]))
        meta = file.put(block([]))
        index = file.put(block([(b"a", data)]))
        for fill in (0, 1, 127, 128, 255):
            self.counted(file.ended(meta, index, fill=fill), [(b"a", b"")])

    def test_handles_of_forty_bytes(self):
        file = File()
        meta = file.put(block([]), width=10)
        index = file.put(block([]), width=10)
        self.assertEqual(len(meta + index), 40)
        self.counted(file.ended(meta, index), [])

    def test_bytes_between_blocks(self):
        file = File()
        file.gap(noise(9))
        first = file.put(block([(b"a", b"")]))
        file.gap(noise(100))
        second = file.put(block([(b"b", b"")]))
        file.gap(b"\0")
        meta = file.put(block([]))
        file.gap(noise(3000))
        index = file.put(block([(b"a", first), (b"b", second)]))
        file.gap(b"\xff")
        self.counted(file.ended(meta, index), [(b"a", b""), (b"b", b"")])

    def test_parts_anywhere(self):
        # The index tells of what comes behind it, so the handles are told for a file that's laid out in advance.
        data = block([(b"a", b"1")])
        sieve = filter_of([b"\0\0\1"])
        meta = block([(FILTER_NAME, handle(0, len(sieve)))])
        index_begin = len(sieve) + 5 + len(meta) + 5
        index = block([(b"a", varint(index_begin + 40, 2) + varint(len(data)))])
        file = File()
        file.put(sieve)
        meta_handle = file.put(meta)
        self.assertEqual(index_begin, len(file.out))
        index_handle = file.put(index)
        file.gap(bytes(index_begin + 40 - len(file.out)))
        file.put(data)
        self.counted(file.ended(meta_handle, index_handle), [(b"a", b"1")])

    def test_one_block_for_meta_and_index(self):
        file = File()
        both = file.put(block([]))
        table = file.ended(both, both)
        self.assertEqual(len(table), 61)
        self.counted(table, [])

    def test_parts_over_one_another(self):
        # The filter is also the first data block's value.
        sieve = filter_of([b"xy"])
        with_five = File()
        with_five.put(sieve)
        file = File()
        data = file.put(block([(b"a", bytes(with_five.out))]))
        begin = bytes(file.out).index(sieve)
        meta = file.put(block([(FILTER_NAME, handle(begin, len(sieve)))]))
        index = file.put(block([(b"a", data)]))
        self.counted(file.ended(meta, index), [(b"a", bytes(with_five.out))])

    def test_any_filter(self):
        entries = TWO_BLOCKS[0] + TWO_BLOCKS[1]
        for pieces in ([], [b""], [b"", b""], [b"\0"], [noise(20)], [noise(5), b"", noise(2000)], [b"\xff"] * 300):
            self.counted(table_of(TWO_BLOCKS, sieve=filter_of(pieces)), entries)

    def test_places_that_stay_and_reach_the_end(self):
        entries = TWO_BLOCKS[0] + TWO_BLOCKS[1]
        for places in ([0, 0, 0], [0, 5, 5], [0, 9, 9], [3, 4, 9], [9, 9, 9]):
            self.counted(table_of(TWO_BLOCKS, sieve=filter_of([noise(9)], places)), entries)

    def test_index_keys_of_others(self):
        for key in (b"ab", b"ab\0", b"abc", b"b", b"b" * 500, b"bz", b"bzzz"):
            for last in (b"e", b"e\0", b"f", b"\xff" * 70000):
                table = table_of(TWO_BLOCKS, [key, last])
                self.counted(table, TWO_BLOCKS[0] + TWO_BLOCKS[1])

    def test_keys_that_none_has_rows_for(self):
        entries = [(b"a" * 65536, b"1"), (b"a" * 70000, b"2")]
        self.counted(table_of([entries]), entries)

    def test_first_key_empty(self):
        entries = [(b"", b""), (b"\0", b"")]
        self.counted(table_of([entries]), entries)
        self.counted(table_of([[pair] for pair in entries]), entries)

    def test_block_made_of_one_empty_entry(self):
        self.counted(table_of([[(b"", b"")]]), [(b"", b"")])


class FewBytesManyKeysTest(unittest.TestCase):
    """Tables in which few bytes stand for many long keys."""

    def test_data_keys_ever_longer(self):
        parts = [entry(0, b"k" * 40000)]
        parts += [entry(40000 + i, b"k") for i in range(8500)]
        table = table_of([packed(parts)], [b"l"])
        self.assertLessEqual(len(table), 100000)
        self.assertEqual(desk.count(table), [8501])

    def test_data_keys_of_one_length(self):
        parts = [entry(0, b"k" * 40000 + b"\0\0")]
        parts += [entry(40000, (i + 1).to_bytes(2, "big")) for i in range(7000)]
        table = table_of([packed(parts)], [b"l"])
        self.assertLessEqual(len(table), 100000)
        self.assertEqual(desk.count(table), [7001])

    def test_index_keys(self):
        file = File()
        handles = [file.put(block([(bytes([65 + i]), b"")])) for i in range(3)]
        parts = [entry(0, b"A" * 30000, handles[0]), entry(0, b"B" * 30000, handles[1]), entry(0, b"C", handles[2])]
        meta = file.put(block([]))
        self.assertEqual(desk.count(file.ended(meta, file.put(packed(parts)))), [3])

    def test_index_keys_of_one_length_over_short_keys(self):
        file = File()
        index = [entry(0, b"k" * 30000 + b"\0\0", file.put(block([(b"", b"")])))]
        for i in range(1, 2000):
            index.append(entry(30000, i.to_bytes(2, "big"), file.put(block([(b"", b"")]))))
        meta = file.put(block([]))
        table = file.ended(meta, file.put(packed(index)))
        self.assertLessEqual(len(table), 100000)
        self.assertEqual(desk.count(table), [-3])


if __name__ == "__main__":
    unittest.main()
