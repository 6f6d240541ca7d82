"""Promise 6: merge."""
import struct
import unittest

from keylogs import desk
from tests.chance import table_by
from tests.forge import entry, filter_of, packed, table_of
from tests.helper import Table, files_of, noise, rows_of
from tests.strict import strict

LONGEST = 16777216
ORDINARY = (16, 4096, 10)
ONE = [(b"b", b"1"), (b"d", b"1"), (b"f", b"1")]
TWO = [(b"a", b"2"), (b"c", b"2"), (b"d", b"2"), (b"g", b"2")]
THREE = [(b"", b"3"), (b"d", b""), (b"dd", b"3"), (b"f", b"3"), (b"h", b"3")]
EMPTY = table_of([])


def made(entries, interval=16, size=4096, bits=10):
    return desk.make(interval, size, bits, LONGEST, rows_of(entries))


def together(*lists):
    """The entries of all, of a key in several the first one's."""
    first = {}
    for entries in lists:
        for key, value in entries:
            first.setdefault(key, value)
    return sorted(first.items())


class RangeTest(unittest.TestCase):
    """-2, before all else."""

    def test_numbers(self):
        right = [16, 4096, 10, 1000]
        ranges = [(1, 64), (64, 65536), (0, 20), (0, LONGEST)]
        for files in ([], files_of(EMPTY), files_of(table_of([ONE])), [1], [0] * 9, list(noise(50))):
            for i, (low, high) in enumerate(ranges):
                for number in (low - 1, high + 1, -2147483648, 2147483647):
                    numbers = right[:i] + [number] + right[i + 1:]
                    self.assertEqual(desk.merge(*numbers, files), [-2])

    def test_just_within(self):
        files = files_of(table_of([ONE]), table_of([TWO]))
        for interval in (1, 64):
            for size in (64, 65536):
                for bits in (0, 20):
                    wanted = made(together(ONE, TWO), interval, size, bits)
                    self.assertEqual(desk.merge(interval, size, bits, LONGEST, files), wanted)
        self.assertEqual(desk.merge(1, 64, 0, 0, files), [-7])


class FilesTest(unittest.TestCase):
    """What's merged."""

    def merged(self, *lists):
        """Merges tables of lists, made by hand in blocks of two entries each; each way of making the table."""
        tables = [table_of([entries[i:i + 2] for i in range(0, len(entries), 2)]) for entries in lists]
        wanted = together(*lists)
        for interval, size, bits in (ORDINARY, (1, 64, 0), (2, 64, 5), (64, 65536, 20), (3, 100, 1)):
            given = desk.merge(interval, size, bits, LONGEST, files_of(*tables))
            self.assertEqual(given, made(wanted, interval, size, bits))
            self.assertEqual(Table(given).entries(), wanted)
            self.assertEqual(desk.count(given[1:]), [len(wanted)])

    def test_none(self):
        for interval, size, bits in ((1, 64, 0), (16, 4096, 10), (64, 65536, 20)):
            self.assertEqual(desk.merge(interval, size, bits, LONGEST, []), made([], interval, size, bits))
        self.assertEqual(desk.merge(16, 4096, 0, 74, [])[0], 74)
        self.assertEqual(desk.merge(16, 4096, 0, 73, []), [-7])

    def test_one(self):
        for entries in ([], ONE, TWO, THREE, [(b"", b"")], [(b"%03d" % i, noise(i)) for i in range(100)]):
            self.merged(entries)

    def test_one_by_what_it_was_made(self):
        rows = [(b"%03d" % i, noise(i % 20, i + 1)) for i in range(300)]
        for interval, size, bits in ((1, 64, 0), (16, 4096, 10), (5, 200, 3)):
            table = made(rows, interval, size, bits)
            self.assertEqual(desk.merge(interval, size, bits, LONGEST, files_of(table[1:])), table)

    def test_several(self):
        self.merged(ONE, TWO)
        self.merged(TWO, ONE)
        for lists in ((ONE, TWO, THREE), (THREE, TWO, ONE), (TWO, THREE, ONE), (TWO, ONE, THREE)):
            self.merged(*lists)

    def test_one_behind_another(self):
        self.merged([(b"a", b"1"), (b"b", b"1")], [(b"c", b"2"), (b"d", b"2")])
        self.merged([(b"c", b"2"), (b"d", b"2")], [(b"a", b"1"), (b"b", b"1")])

    def test_keys_in_all(self):
        keys = [b"", b"a", b"ab", b"b"]
        self.merged(*[[(key, bytes([number])) for key in keys] for number in range(5)])
        self.merged(*[[(key, bytes([number])) for key in keys[number % 3:]] for number in range(7)])

    def test_the_same_twice(self):
        self.merged(ONE, ONE)
        self.merged(THREE, THREE, THREE)
        self.merged(ONE, TWO, ONE)

    def test_empty_ones_among_them(self):
        self.merged([], ONE)
        self.merged(ONE, [])
        self.merged([], [], TWO, [], ONE, [])
        self.merged([], [])

    def test_first_value_is_empty(self):
        self.merged([(b"a", b"")], [(b"a", b"1")])
        self.merged([(b"a", b"1")], [(b"a", b"")])

    def test_many(self):
        lists = []
        for number in range(60):
            entries = [(noise(2, 7 * number + i)[:1 + i % 2], bytes([number, i])) for i in range(9)]
            lists.append(sorted(dict(entries).items()))
        self.merged(*lists)

    def test_many_of_one_entry(self):
        lists = [[(struct.pack(">H", 37 * number % 401), bytes([number % 256]))] for number in range(500)]
        self.merged(*lists)

    def test_what_is_in_them_but_entries_does_not_count(self):
        plain = table_of([ONE])
        other = table_of([[pair] for pair in ONE], [b"c", b"d\0", b"zzz"], filter_of([noise(30)], [3, 9]))
        self.assertEqual(strict(other).entries(), ONE)
        for interval, size, bits in (ORDINARY, (1, 64, 0)):
            self.assertEqual(desk.merge(interval, size, bits, LONGEST, files_of(other, table_of([TWO]))),
                             desk.merge(interval, size, bits, LONGEST, files_of(plain, table_of([TWO]))))

    def test_keys_too_long_for_rows(self):
        long = [(b"k" * 65536, b"1"), (b"k" * 65537, b"2"), (b"k" * 90000, b"3")]
        files = files_of(table_of([long]), EMPTY)
        for interval, size, bits in (ORDINARY, (1, 64, 0), (64, 65536, 3)):
            given = desk.merge(interval, size, bits, LONGEST, files)
            table = Table(given)
            self.assertEqual(table.entries(), long)
            if bits > 0:
                self.assertEqual(table.filter.pieces, table.expected_pieces(bits))
            self.assertEqual(desk.count(given[1:]), [3])
            self.assertEqual(desk.at(0, LONGEST, given[1:]), [-6])
            self.assertEqual(desk.merge(interval, size, bits, len(given) - 2, files), [-7])

    def test_as_much_in_common_as_can_be(self):
        # Less is told in common than there is, and the files' keys come one after the other's in many ways.
        parts = [entry(0, b"abcdef"), entry(2, b"cdeg"), entry(5, b"h"), entry(0, b"abcdej"), entry(1, b"c"),
                 entry(1, b"d"), entry(0, b"adx")]
        first = table_of([packed(parts)], [b"ae"])
        mine = strict(first).entries()
        for keys in ([b"abcdeg"], [b"abcdega", b"abcdei"], [b"a", b"abcdefg", b"abcdek", b"acz", b"adxy"],
                     [key for key, value in mine], sorted(key + b"z" for key, value in mine)):
            yours = [(key, b"2") for key in keys]
            second = table_of([yours])
            for interval in (1, 3, 16):
                self.assertEqual(desk.merge(interval, 4096, 10, LONGEST, files_of(first, second)),
                                 made(together(mine, yours), interval, 4096, 10))
                self.assertEqual(desk.merge(interval, 4096, 10, LONGEST, files_of(second, first)),
                                 made(together(yours, mine), interval, 4096, 10))

    def test_long_keys_of_two_files(self):
        entries = [(b"k" * 3000 + bytes([i]), bytes([i])) for i in range(200)]
        files = files_of(table_of([entries[0::2]]), table_of([entries[1::2]]))
        given = desk.merge(16, 4096, 10, LONGEST, files)
        table = Table(given)
        self.assertEqual(table.entries(), entries)
        self.assertEqual(table.filter.pieces, table.expected_pieces(10))


class NoTableTest(unittest.TestCase):
    """-3, before -7."""

    def refused(self, files):
        for most in (0, 100, LONGEST):
            self.assertEqual(desk.merge(16, 4096, 10, most, files), [-3])

    def test_a_length_that_is_cut(self):
        right = files_of(table_of([ONE]))
        for length in (1, 2, 3):
            self.refused([0] * length)
            self.refused(right + [0] * length)
            self.refused(right + files_of(EMPTY)[:length])

    def test_a_length_that_goes_past_the_end(self):
        right = files_of(table_of([ONE]))
        table = table_of([TWO])
        for more in (1, 2, 256, 65536, 2 ** 24, 2 ** 32 - 1 - len(table)):
            self.refused(list(struct.pack("<I", len(table) + more)) + table)
            self.refused(right + list(struct.pack("<I", len(table) + more)) + table)
        self.refused(right[:-1])
        self.refused([1, 0, 0, 0])

    def test_a_length_that_is_short(self):
        table = table_of([TWO])
        self.refused(list(struct.pack("<I", len(table) - 1)) + table)
        self.refused(list(struct.pack("<I", len(table) - 4)) + table)

    def test_no_table(self):
        right = table_of([ONE])
        for wrong in ([], [0], right[:-1], [0] + right, list(noise(70)), table_of([[(b"b", b""), (b"a", b"")]])):
            self.refused(files_of(wrong))
            self.refused(files_of(wrong, right))
            self.refused(files_of(right, wrong))
            self.refused(files_of(right, wrong, right))
            self.refused(files_of(EMPTY, EMPTY, right, right, wrong))
        self.refused([0, 0, 0, 0])

    def test_noise(self):
        for length in (4, 5, 70, 1000, 100000):
            self.refused(list(noise(length, length)))
        self.refused([0] * 100000)
        self.refused([255] * 100000)

    def test_a_fault_behind_much(self):
        far_too_long = packed([entry(0, b"k" * 20000)] + [entry(20000 + i, b"k") for i in range(2000)])
        right = table_of([far_too_long], [b"l"])
        for first in (b"a", b"k" * 20000, b"m"):
            # The fault comes behind all that's right.
            wrong = table_of([[(first, b"1")], packed([entry(0, b"z"), entry(0, b"y")])], [first, b"z"])
            self.refused(files_of(wrong))
            self.refused(files_of(right, wrong))
            self.refused(files_of(wrong, right))
        self.assertEqual(desk.merge(1, 4096, 10, LONGEST, files_of(right, EMPTY)), [-7])


class TooLongTest(unittest.TestCase):
    def test_just_as_long(self):
        for lists in ((ONE,), (ONE, TWO, THREE), ([(b"%03d" % i, noise(i)) for i in range(120)], ONE)):
            files = files_of(*[table_of([entries]) for entries in lists])
            for interval, size, bits in (ORDINARY, (1, 64, 0), (64, 65536, 20)):
                given = desk.merge(interval, size, bits, LONGEST, files)
                length = given[0]
                self.assertEqual(len(given), length + 1)
                self.assertEqual(desk.merge(interval, size, bits, length, files), given)
                self.assertEqual(desk.merge(interval, size, bits, length + 1, files), given)
                for most in (0, 1, 48, length // 2, length - 50, length - 1):
                    self.assertEqual(desk.merge(interval, size, bits, most, files), [-7])


class FewBytesManyKeysTest(unittest.TestCase):
    """Tables in which few bytes stand for many long keys."""

    def files(self, length, total):
        parts = [entry(0, b"k" * length)] + [entry(length + i, b"k") for i in range(total - 1)]
        files = files_of(table_of([packed(parts)], [b"l"]))
        self.assertLessEqual(len(files), 100000)
        return files

    def test_far_too_long(self):
        files = self.files(45000, 8000)
        for interval, size, bits in ((1, 64, 0), (1, 65536, 20), (16, 4096, 10), (64, 64, 1)):
            self.assertEqual(desk.merge(interval, size, bits, LONGEST, files), [-7])
        for most in (0, 1000, 1000000):
            self.assertEqual(desk.merge(64, 65536, 10, most, files), [-7])

    def test_long_enough(self):
        files = self.files(3000, 2000)
        given = desk.merge(64, 65536, 10, LONGEST, files)
        table = Table(given)
        self.assertEqual(table.entries(), [(b"k" * (3000 + i), b"") for i in range(2000)])
        # The filter's pieces are slow to tell a second way, so some of the keys are asked for.
        self.assertEqual(desk.count(given[1:]), [2000])
        read = strict(given[1:])
        for i in (0, 1, 127, 128, 129, 1000, 1999):
            self.assertEqual(read.may(b"k" * (3000 + i)), 1)
        self.assertLess(sum(read.may(b"k" * (3000 + i) + b"j") for i in range(50)), 10)

    def test_every_bit_of_long_keys(self):
        # Keys that have much in common and differ in length, and in more than one place.
        entries = sorted({b"k" * (400 + i % 37) + noise(i % 11, i + 1): b"" for i in range(300)}.items())
        files = files_of(table_of([entries[:200]]), table_of([entries[100:]]))
        for bits in (1, 10, 20):
            given = desk.merge(64, 4096, bits, LONGEST, files)
            table = Table(given)
            self.assertEqual(table.entries(), entries)
            self.assertEqual(table.filter.pieces, table.expected_pieces(bits))


class ChanceTest(unittest.TestCase):
    """Tables by chance, three of them, merged as a second reader reads them."""

    def test_three(self):
        merged = 0
        for seed in range(300):
            tables = [table_by(1000 + seed), table_by(2000 + seed), table_by(3000 + seed)]
            read = [strict(table) for table in tables]
            given = desk.merge(3, 64, 2, LONGEST, files_of(*tables))
            with self.subTest(seed=seed):
                if None in read:
                    self.assertEqual(given, [-3])
                else:
                    self.assertEqual(given, made(together(*[table.entries() for table in read]), 3, 64, 2))
                    merged += 1
        self.assertGreater(merged, 20)


if __name__ == "__main__":
    unittest.main()
