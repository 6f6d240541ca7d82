"""Promise 2: what make refuses, and what it looks at first."""
import unittest

from keylogs.desk import make
from tests.helper import Table, noise, row, rows_of

LOWEST = -2147483648
HIGHEST = 2147483647
LONGEST = 16777216
GOOD = rows_of([(b"a", b"1"), (b"b", b"22"), (b"c", b"")])
BAD = row(b"b", b"") + row(b"a", b"")
OUTSIDE = {
    "interval": (0, 65, -1, LOWEST, HIGHEST),
    "block": (63, 65537, 0, -1, -64, LOWEST, HIGHEST),
    "bits": (-1, 21, LOWEST, HIGHEST),
    "most": (-1, 16777217, LOWEST, HIGHEST),
}
WITHIN = {"interval": (1, 2, 64), "block": (64, 65, 65536), "bits": (0, 1, 20), "most": (LONGEST, 1000)}


def call(rows, **changed):
    numbers = {"interval": 16, "block": 4096, "bits": 10, "most": LONGEST}
    numbers.update(changed)
    return make(numbers["interval"], numbers["block"], numbers["bits"], numbers["most"], rows)


class RangeTest(unittest.TestCase):
    def test_within(self):
        for name, numbers in WITHIN.items():
            for number in numbers:
                answer = call(GOOD, **{name: number})
                with self.subTest(name=name, number=number):
                    self.assertEqual(Table(answer).entries(), [(b"a", b"1"), (b"b", b"22"), (b"c", b"")])

    def test_most_of_none_is_within(self):
        self.assertEqual(call(GOOD, most=0), [-7])
        self.assertEqual(call([], most=0), [-7])
        self.assertEqual(call(BAD, most=0), [-4])

    def test_outside(self):
        for name, numbers in OUTSIDE.items():
            for number in numbers:
                with self.subTest(name=name, number=number):
                    self.assertEqual(call(GOOD, **{name: number}), [-2])
                    self.assertEqual(call([], **{name: number}), [-2])

    def test_outside_is_told_before_wrong_rows(self):
        for name, numbers in OUTSIDE.items():
            for number in numbers:
                with self.subTest(name=name, number=number):
                    self.assertEqual(call(BAD, **{name: number}), [-2])
                    self.assertEqual(call([1], **{name: number}), [-2])

    def test_outside_is_told_before_too_long(self):
        for name in ("interval", "block", "bits"):
            for number in OUTSIDE[name]:
                with self.subTest(name=name, number=number):
                    self.assertEqual(call(GOOD, **{name: number, "most": 0}), [-2])

    def test_all_at_their_ends(self):
        for interval in (1, 64):
            for block in (64, 65536):
                for bits in (0, 20):
                    answer = make(interval, block, bits, LONGEST, GOOD)
                    self.assertEqual(Table(answer).entries(), [(b"a", b"1"), (b"b", b"22"), (b"c", b"")])

    def test_more_bytes_than_there_may_be(self):
        self.assertEqual(call([0] * 16777216), [-4])
        self.assertEqual(call([0] * 16777217), [-2])


class WrongRowsTest(unittest.TestCase):
    def refused(self, rows):
        self.assertEqual(call(rows), [-4])
        self.assertEqual(call(rows, bits=0), [-4])
        self.assertEqual(call(rows, most=0), [-4])

    def test_cut_anywhere(self):
        rows = []
        ends = {0}
        for key, value in ((b"", b"xyz"), (b"key", b"value"), (b"key2", b""), (b"z" * 300, b"")):
            rows.extend(row(key, value))
            ends.add(len(rows))
        for cut in range(len(rows) + 1):
            with self.subTest(cut=cut):
                if cut in ends:
                    self.assertEqual(call(rows[:cut])[0], len(call(rows[:cut])) - 1)
                else:
                    self.refused(rows[:cut])

    def test_cut_within_lengths_of_a_row_of_nothing(self):
        for length in range(1, 6):
            self.refused([0] * length)
            self.refused(row(b"a", b"") + [0] * length)

    def test_cut_within_the_key(self):
        self.refused([1, 0, 0, 0, 0, 0])
        self.refused([2, 0, 0, 0, 0, 0, 97])
        self.refused([0, 1, 0, 0, 0, 0] + [97] * 255)
        self.refused([255, 255, 0, 0, 0, 0] + [97] * 65534)

    def test_cut_within_the_value(self):
        self.refused([0, 0, 1, 0, 0, 0])
        self.refused([1, 0, 2, 0, 0, 0, 97, 98])
        self.refused([0, 0, 0, 1, 0, 0] + [1] * 255)
        self.refused([0, 0, 0, 0, 1, 0] + [1] * 65535)
        self.refused([0, 0, 0, 0, 0, 1])
        self.refused([0, 0, 0, 0, 0, 128])
        self.refused([0, 0, 255, 255, 255, 255])
        self.refused([0, 0, 250, 255, 255, 255])

    def test_lengths_of_several_bytes(self):
        key = noise(65535, 5)
        self.assertEqual(Table(call(row(key, b"v"))).entries(), [(key, b"v")])
        value = noise(70000, 6)
        self.assertEqual(Table(call(row(b"k", value))).entries(), [(b"k", value)])

    def test_equal_keys(self):
        self.refused(row(b"", b"") + row(b"", b""))
        self.refused(row(b"a", b"1") + row(b"a", b"1"))
        self.refused(row(b"a", b"1") + row(b"a", b"2"))
        self.refused(row(b"a", b"") + row(b"same", b"1") + row(b"same", b"2") + row(b"z", b""))

    def test_a_key_before_the_one_before_it(self):
        self.refused(row(b"b", b"") + row(b"a", b""))
        self.refused(row(b"ab", b"") + row(b"aa", b""))
        self.refused(row(b"b", b"") + row(b"aa", b""))
        self.refused(row([128], b"") + row([127], b""))
        self.refused(row([255], b"") + row([0, 0], b""))
        self.refused(row(b"a", b"") + row(b"c", b"") + row(b"b", b"") + row(b"d", b""))
        self.refused(row(b"a", b"") + row(b"b", b"") + row(b"c", b"") + row(b"b", b""))

    def test_a_beginning_behind_what_begins_with_it(self):
        self.refused(row(b"a", b"") + row(b"", b""))
        self.refused(row(b"ab", b"") + row(b"a", b""))
        self.refused(row([7, 0], b"") + row([7], b""))

    def test_wrong_where_the_next_block_begins(self):
        self.assertEqual(call(row(b"b", b"v" * 100) + row(b"a", b""), block=64), [-4])
        self.assertEqual(call(row(b"b", b"v" * 100) + row(b"b", b""), block=64), [-4])
        self.assertEqual(call(row(b"b", b"v" * 100) + row(b"c", b"")[:-1], block=64), [-4])

    def test_keys_that_rise_are_taken(self):
        keys = [b"", b"\0", b"\0\0", b"\0\1", b"\1", b"\x7f\xff", b"\x80", b"\xff", b"\xff\0", b"\xff\xff"]
        entries = [(key, b"") for key in keys]
        self.assertEqual(Table(call(rows_of(entries))).entries(), entries)


class TooLongTest(unittest.TestCase):
    def test_just_as_long_and_one_longer(self):
        many = rows_of([(b"%04d" % i, b"v" * 20) for i in range(300)])
        for rows in ([], row(b"", b""), GOOD, many):
            for interval, block, bits in ((1, 64, 0), (16, 4096, 10), (3, 100, 20), (64, 65536, 1)):
                table = make(interval, block, bits, LONGEST, rows)
                with self.subTest(rows=len(rows), block=block):
                    self.assertEqual(make(interval, block, bits, table[0], rows), table)
                    self.assertEqual(make(interval, block, bits, table[0] + 1, rows), table)
                    self.assertEqual(make(interval, block, bits, table[0] - 1, rows), [-7])
                    self.assertEqual(make(interval, block, bits, 1, rows), [-7])

    def test_the_empty_table_has_74_bytes(self):
        self.assertEqual(make(16, 4096, 0, 73, []), [-7])
        self.assertEqual(make(16, 4096, 0, 74, [])[0], 74)


if __name__ == "__main__":
    unittest.main()
