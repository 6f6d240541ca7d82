"""Promise 4, its first half: get."""
import unittest

from keylogs import desk
from tests.forge import File, block, entry, filter_of, packed, table_of
from tests.helper import noise, rows_of

LONGEST = 16777216
PAIRS = [(b"b", b"1"), (b"bb", b"22"), (b"d", b""), (b"f", noise(50))]
TABLE = desk.make(2, 64, 10, LONGEST, rows_of(PAIRS))[1:]
NO_TABLE = TABLE[:-1]
MANY = [(b"%04d" % (2 * i), noise(i % 40, i + 1)) for i in range(900)]


def get(most, table, key):
    return desk.get(most, table, list(key))


class RangeTest(unittest.TestCase):
    """-2, before all else."""

    def test_most(self):
        for most, answer in ((-1, [-2]), (-2147483648, [-2]), (LONGEST + 1, [-2]), (2147483647, [-2]),
                             (LONGEST, [1, 49]), (1, [1, 49]), (0, [-7])):
            self.assertEqual(get(most, TABLE, b"b"), answer)

    def test_key(self):
        self.assertEqual(get(10, TABLE, b"k" * 65535), [-5])
        self.assertEqual(get(10, TABLE, b"k" * 65536), [-2])
        self.assertEqual(get(10, TABLE, b"k" * 66000), [-2])

    def test_before_no_table(self):
        for table in ([], NO_TABLE, list(noise(100000))):
            self.assertEqual(get(-1, table, b"b"), [-2])
            self.assertEqual(get(LONGEST + 1, table, b"b"), [-2])
            self.assertEqual(get(10, table, b"b" * 65536), [-2])
            self.assertEqual(get(-1, table, b"b" * 65536), [-2])

    def test_long_key_that_is_there(self):
        longest = b"k" * 65535
        table = table_of([[(longest, b"1"), (longest + b"k", b"2")]])
        self.assertEqual(get(10, table, longest), [1, 49])
        self.assertEqual(get(10, table, longest + b"k"), [-2])


class NoTableTest(unittest.TestCase):
    """-3, before -5 and -7."""

    def test_no_table(self):
        for most in (0, 1, LONGEST):
            for key in (b"b", b"", b"not there", b"f"):
                for table in ([], NO_TABLE, [0] + TABLE, list(noise(300))):
                    self.assertEqual(get(most, table, key), [-3])

    def test_faults_far_from_the_key(self):
        right = block([(b"a", b"1")])
        broken = packed([entry(0, b"c"), entry(0, b"b")])
        for key in (b"a", b"", b"z", b"c"):
            self.assertEqual(get(0, table_of([right, broken], [b"a", b"c"]), key), [-3])
            self.assertEqual(get(10, table_of([right], [b"a"], filter_of([b"ab"], [3])), key), [-3])
        file = File()
        first = file.put(right)
        second = file.put(block([(b"b", b"2")]), change=1)
        meta = file.put(block([]))
        table = file.ended(meta, file.put(block([(b"a", first), (b"b", second)])))
        self.assertEqual(get(10, table, b"a"), [-3])


class NotThereTest(unittest.TestCase):
    """-5, before -7."""

    def test_before_between_behind(self):
        for key in (b"", b"a", b"azzz", b"b\0", b"ba", b"bba", b"bb\0", b"c", b"d\0", b"e", b"ezz", b"g", b"\xff" * 9):
            for most in (0, LONGEST):
                self.assertEqual(get(most, TABLE, key), [-5])

    def test_another_ones_beginning(self):
        table = table_of([[(b"abc", b"1"), (b"abcdef", b"2")]])
        for key in (b"", b"a", b"ab", b"abcd", b"abcde", b"abcdefg"):
            self.assertEqual(get(10, table, key), [-5])

    def test_empty_table(self):
        for bits in (0, 10):
            table = desk.make(16, 4096, bits, LONGEST, [])[1:]
            for key in (b"", b"a"):
                self.assertEqual(get(0, table, key), [-5])

    def test_index_keys_are_no_keys(self):
        table = table_of([[(b"a", b"1")], [(b"e", b"2")]], [b"c", b"g"])
        self.assertEqual(get(10, table, b"c"), [-5])
        self.assertEqual(get(10, table, b"g"), [-5])


class ThereTest(unittest.TestCase):
    def test_ordinary(self):
        for key, value in PAIRS:
            self.assertEqual(get(LONGEST, TABLE, key), [len(value)] + list(value))

    def test_empty_key(self):
        table = table_of([[(b"", b"none"), (b"a", b"1")]])
        self.assertEqual(get(10, table, b""), [4] + list(b"none"))
        self.assertEqual(get(3, table, b""), [-7])

    def test_empty_value(self):
        self.assertEqual(get(0, TABLE, b"d"), [0])
        self.assertEqual(get(5, TABLE, b"d"), [0])

    def test_just_as_long(self):
        for key, value in PAIRS:
            self.assertEqual(get(len(value), TABLE, key), [len(value)] + list(value))
            if value:
                self.assertEqual(get(len(value) - 1, TABLE, key), [-7])
                self.assertEqual(get(0, TABLE, key), [-7])

    def test_long_value(self):
        value = noise(99000)
        table = table_of([[(b"k", value)]])
        self.assertEqual(get(99000, table, b"k"), [99000] + list(value))
        self.assertEqual(get(98999, table, b"k"), [-7])

    def test_all_of_many_blocks(self):
        for interval, size, bits in ((1, 64, 0), (3, 500, 10), (16, 4096, 1), (64, 65536, 20)):
            table = desk.make(interval, size, bits, LONGEST, rows_of(MANY))[1:]
            for key, value in MANY[::60] + MANY[-1:]:
                self.assertEqual(get(LONGEST, table, key), [len(value)] + list(value))
            for key in (b"0001", b"0899", b"1797", b"1799", b"00020"):
                self.assertEqual(get(LONGEST, table, key), [-5])

    def test_every_key_of_several_blocks(self):
        pairs = MANY[:70]
        table = desk.make(4, 100, 5, LONGEST, rows_of(pairs))[1:]
        for key, value in pairs:
            self.assertEqual(get(100, table, key), [len(value)] + list(value))

    def test_keys_with_little_told_in_common(self):
        table = table_of([packed([entry(0, b"abcd", b"1"), entry(2, b"ce", b"2"), entry(0, b"abcf", b"3")])], [b"x"])
        for key, value in ((b"abcd", 49), (b"abce", 50), (b"abcf", 51)):
            self.assertEqual(get(10, table, key), [1, value])

    def test_filter_that_says_no(self):
        # What a filter says doesn't count here.
        table = table_of([[(b"a", b"1")]], sieve=filter_of([bytes(8) + b"\6"]))
        self.assertEqual(get(10, table, b"a"), [1, 49])

    def test_few_bytes_many_long_keys(self):
        parts = [entry(0, b"k" * 40000 + b"\0\0", b"")]
        parts += [entry(40000, i.to_bytes(2, "big"), b"" if i % 1000 else b"%d" % i) for i in range(1, 7001)]
        table = table_of([packed(parts)], [b"l"])
        self.assertLessEqual(len(table), 100000)
        for i in (1000, 7000):
            self.assertEqual(get(9, table, b"k" * 40000 + i.to_bytes(2, "big")), [4] + list(b"%d" % i))
        self.assertEqual(get(9, table, b"k" * 40000), [-5])
        self.assertEqual(get(9, table, b"k" * 40000 + b"\xff\xff"), [-5])


if __name__ == "__main__":
    unittest.main()
