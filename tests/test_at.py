"""Promise 4, its second half: at."""
import unittest

from keylogs import desk
from tests.forge import File, block, entry, packed, table_of
from tests.helper import noise, row, rows_of

LONGEST = 16777216
PAIRS = [(b"", b"none"), (b"b", b""), (b"bb", b"22"), (b"f", noise(50))]
TABLE = desk.make(2, 64, 10, LONGEST, rows_of(PAIRS))[1:]
NO_TABLE = TABLE[:-1]


class RangeTest(unittest.TestCase):
    """-2, before all else."""

    def test_i(self):
        for table in (TABLE, NO_TABLE, []):
            self.assertEqual(desk.at(-1, 100, table), [-2])
            self.assertEqual(desk.at(-2147483648, 100, table), [-2])

    def test_most(self):
        for table in (TABLE, NO_TABLE, []):
            for most in (-1, -2147483648, LONGEST + 1, 2147483647):
                for i in (-1, 0, 4):
                    self.assertEqual(desk.at(i, most, table), [-2])
        self.assertEqual(desk.at(0, LONGEST, TABLE), [10] + row(b"", b"none"))
        self.assertEqual(desk.at(0, 0, TABLE), [-7])


class RefusalsTest(unittest.TestCase):
    def test_no_table(self):
        for table in ([], NO_TABLE, [0] + TABLE, list(noise(300))):
            for i in (0, 3, 4, 2147483647):
                for most in (0, 100):
                    self.assertEqual(desk.at(i, most, table), [-3])

    def test_faults_far_from_the_entry(self):
        broken = packed([entry(0, b"c"), entry(0, b"b")])
        table = table_of([[(b"a", b"1")], broken], [b"a", b"c"])
        for i in (0, 1, 2, 3):
            self.assertEqual(desk.at(i, 100, table), [-3])
        file = File()
        first = file.put(block([(b"a", b"1")]))
        second = file.put(block([(b"b", b"2")]), change=1)
        meta = file.put(block([]))
        self.assertEqual(desk.at(0, 100, file.ended(meta, file.put(block([(b"a", first), (b"b", second)])))), [-3])

    def test_no_more(self):
        for i in (4, 5, 100, 65536, 2147483647):
            for most in (0, 100):
                self.assertEqual(desk.at(i, most, TABLE), [-5])

    def test_empty_table(self):
        for bits in (0, 10):
            table = desk.make(16, 4096, bits, LONGEST, [])[1:]
            for i in (0, 1, 2147483647):
                self.assertEqual(desk.at(i, 0, table), [-5])

    def test_key_too_long(self):
        longest = b"k" * 65535
        table = table_of([[(longest, b"1"), (longest + b"k", b"2"), (longest + b"kk", b"3"), (b"l", b"4")]])
        self.assertEqual(desk.at(0, LONGEST, table), [65542] + row(longest, b"1"))
        self.assertEqual(desk.at(0, 65542, table), [65542] + row(longest, b"1"))
        self.assertEqual(desk.at(0, 65541, table), [-7])
        for i in (1, 2):
            for most in (0, 65543, LONGEST):
                self.assertEqual(desk.at(i, most, table), [-6])
        self.assertEqual(desk.at(3, LONGEST, table), [8] + row(b"l", b"4"))
        self.assertEqual(desk.at(4, LONGEST, table), [-5])

    def test_just_too_long(self):
        for i, pair in enumerate(PAIRS):
            wanted = row(*pair)
            self.assertEqual(desk.at(i, len(wanted), TABLE), [len(wanted)] + wanted)
            self.assertEqual(desk.at(i, len(wanted) + 1, TABLE), [len(wanted)] + wanted)
            self.assertEqual(desk.at(i, len(wanted) - 1, TABLE), [-7])
            self.assertEqual(desk.at(i, 0, TABLE), [-7])


class RowTest(unittest.TestCase):
    def test_written_out(self):
        self.assertEqual(desk.at(2, 100, TABLE), [10, 2, 0, 2, 0, 0, 0, 98, 98, 50, 50])

    def test_empty_key_and_value(self):
        self.assertEqual(desk.at(0, 6, table_of([[(b"", b"")]])), [6, 0, 0, 0, 0, 0, 0])
        self.assertEqual(desk.at(1, 100, TABLE), [7, 1, 0, 0, 0, 0, 0, 98])

    def test_lengths_of_several_bytes(self):
        pairs = [(b"a" * 300, noise(70000))]
        table = table_of([pairs])
        given = desk.at(0, LONGEST, table)
        self.assertEqual(given, [70306] + row(*pairs[0]))
        self.assertEqual(given[1:7], [44, 1, 112, 17, 1, 0])

    def test_all_rows_together(self):
        pairs = [(b"%03d" % (7 * i), noise(i % 30, i + 1)) for i in range(140)]
        rows = rows_of(pairs)
        for interval, size, bits in ((1, 64, 0), (3, 200, 10), (16, 4096, 1)):
            table = desk.make(interval, size, bits, LONGEST, rows)[1:]
            together = []
            for i in range(len(pairs)):
                given = desk.at(i, LONGEST, table)
                self.assertEqual(given[0], len(given) - 1)
                together.extend(given[1:])
            self.assertEqual(together, rows)
            self.assertEqual(desk.at(len(pairs), LONGEST, table), [-5])

    def test_little_told_in_common(self):
        table = table_of([packed([entry(0, b"abcd", b"1"), entry(2, b"ce", b"2"), entry(0, b"abcf", b"3")])], [b"x"])
        for i, pair in enumerate([(b"abcd", b"1"), (b"abce", b"2"), (b"abcf", b"3")]):
            self.assertEqual(desk.at(i, 100, table), [11] + row(*pair))

    def test_few_bytes_many_long_keys(self):
        parts = [entry(0, b"k" * 40000)] + [entry(40000 + i, b"k") for i in range(8500)]
        table = table_of([packed(parts)], [b"l"])
        self.assertLessEqual(len(table), 100000)
        self.assertEqual(desk.at(8500, LONGEST, table), [48506] + row(b"k" * 48500, b""))
        self.assertEqual(desk.at(8501, LONGEST, table), [-5])


if __name__ == "__main__":
    unittest.main()
