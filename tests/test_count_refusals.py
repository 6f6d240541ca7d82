"""Promise 3, what is no table: each thing that's told of tables, broken alone, is -3."""
import struct
import unittest

from keylogs import desk
from tests.forge import File, block, entry, filter_of, handle, packed, table_of, varint
from tests.helper import FILTER_NAME, MAGIC, noise, read_varint, rows_of, sealed
from tests.strict import strict

PAIRS = [(b"a", b"1"), (b"ab", b"2"), (b"b", b"3")]


class RefusalsTest(unittest.TestCase):
    def refused(self, table):
        self.assertEqual(desk.count(table), [-3])
        self.assertIsNone(strict(table))

    def counted(self, table, total):
        self.assertEqual(desk.count(table), [total])
        self.assertIsNotNone(strict(table))


class EndTest(RefusalsTest):
    """The last 48 bytes."""

    def test_too_short(self):
        table = table_of([])
        for length in range(48):
            self.refused(table[len(table) - length:])
        self.refused(list(bytes(40) + MAGIC))

    def test_cut(self):
        table = table_of([PAIRS], sieve=filter_of([b"\0\1"]))
        self.counted(table, 3)
        for length in range(len(table)):
            self.refused(table[:length])

    def test_more_in_front_or_behind(self):
        table = table_of([PAIRS])
        self.refused([0] + table)
        self.refused(table + [0])

    def test_last_eight(self):
        table = table_of([PAIRS])
        for place in range(len(table) - 8, len(table)):
            for bit in (1, 16, 128):
                self.refused(table[:place] + [table[place] ^ bit] + table[place + 1:])
        file = File()
        meta = file.put(block([]))
        self.refused(file.ended(meta, meta, magic=MAGIC[::-1]))

    def test_noise(self):
        for length in (0, 1, 47, 48, 49, 61, 100, 1000, 100000):
            self.refused(list(noise(length, length + 1)))
            if length >= 8:
                self.refused(list(noise(length - 8, length + 1) + MAGIC))
        self.refused([0] * 100000)
        self.refused([255] * 100000)
        self.refused(list(bytes(99992) + MAGIC))


class HandleTest(RefusalsTest):
    """Handles of meta, index, data and filter; each has room for what it tells of, and for five bytes more."""

    def table(self, change=None, value=None):
        """A table in which one of the handles is another."""
        file = File()
        handles = {}

        def chosen(name, right):
            handles[name] = right
            return value if name == change else right

        data = chosen("data", file.put(block(PAIRS)))
        sieve = chosen("filter", file.put(filter_of([b"\0\1"])))
        meta = chosen("meta", file.put(block([(FILTER_NAME, sieve)])))
        index = chosen("index", file.put(block([(b"b", data)])))
        self.limit = len(file.out)
        self.handles = handles
        return file.ended(meta, index)

    def test_as_they_are(self):
        self.counted(self.table(), 3)

    def test_elsewhere(self):
        for name in ("meta", "index", "data", "filter"):
            self.table()
            begin, at = read_varint(self.handles[name], 0)
            length, at = read_varint(self.handles[name], at)
            for wrong in (handle(begin + 1, length), handle(begin, length + 1), handle(begin, length - 1),
                          handle(begin, 0), handle(0, 0), handle(2 ** 63 - 1, length), handle(begin, 2 ** 63 - 1),
                          handle(2 ** 63 - 1, 2 ** 63 - 1), handle(2 ** 32 + begin, length), handle(10 ** 6, 0)):
                self.refused(self.table(name, wrong))

    def test_no_varints(self):
        endless = b"\x80" * 10 + b"\0"
        for name in ("meta", "index", "data", "filter"):
            self.table()
            right = self.handles[name]
            begin = right[:-1]
            length = right[-1:]
            for wrong in (endless + length, begin + endless, varint(2 ** 63) + length, begin + varint(2 ** 63),
                          varint(2 ** 64 - 1) + length, b"\xff" * 9 + b"\x02" + length):
                self.refused(self.table(name, wrong))

    def test_values_that_are_cut_or_have_more(self):
        for name in ("data", "filter"):
            self.table()
            right = self.handles[name]
            for wrong in (b"", right[:1], right[:-1], right + b"\0", right + b"\1", right + right, b"\x80",
                          right[:-1] + bytes([right[-1] | 128])):
                self.refused(self.table(name, wrong))

    def test_room_for_the_five(self):
        # The last block's last byte is one of the 48, or isn't; it's 0, as the byte there is, the meta's begin.
        for seed in range(10000):
            data = block([(b"a", struct.pack("<H", seed))])
            if sealed(data)[-1] == 0:
                break
        for missing, total in ((0, [1]), (1, [-3])):
            file = File()
            meta = file.put(block([]))
            self.assertEqual(meta[0], 0)
            index = file.put(block([(b"a", handle(38, len(data)))]))
            self.assertLess(len(file.out), 38)
            file.gap(bytes(38 - len(file.out)))
            file.gap((data + sealed(data))[:len(data) + 5 - missing])
            table = file.ended(meta, index)
            self.assertEqual(bytes(table[38:38 + len(data) + 5]), data + sealed(data))
            self.assertEqual(desk.count(table), total)

    def test_no_room(self):
        for name in ("meta", "index", "data", "filter"):
            for past in (-5, -4, -1, 0, 1, 7, 40, 43, 48, 49, 1000):
                self.table()
                self.refused(self.table(name, handle(self.limit + past, 0)))
                self.refused(self.table(name, handle(0, self.limit + past)))

    def test_data_blocks_one_behind_another(self):
        first = block([(b"a", b"1")])
        second = block([(b"b", b"2")])
        file = File()
        begin = file.put(second)
        later = file.put(first)
        meta = file.put(block([]))
        self.refused(file.ended(meta, file.put(block([(b"a", later), (b"b", begin)]))))
        file = File()
        begin = file.put(first)
        later = file.put(second)
        meta = file.put(block([]))
        self.counted(file.ended(meta, file.put(block([(b"a", begin), (b"b", later)]))), 2)

    def test_data_block_within_the_one_before(self):
        # The second block, with its five bytes, is the first one's value.
        inner = block([(b"b", b"2")])
        value = inner + sealed(inner)
        file = File()
        first = file.put(block([(b"a", value)]))
        begin = bytes(file.out).index(value)
        meta = file.put(block([]))
        self.refused(file.ended(meta, file.put(block([(b"a", first), (b"b", handle(begin, len(inner)))]))))

    def test_data_block_that_begins_in_the_five_bytes_before(self):
        # A block of which the first bytes are the last ones of the five behind the one before.
        for seed in range(40000):
            content = packed([entry(0, b"a", struct.pack("<I", seed))])
            if sealed(content)[-1] == 0:
                break
        last = packed([entry(0, b"b" * 3)])
        self.assertEqual(last[0], 0)
        file = File()
        first = file.put(content)
        begin = len(file.out) - 1
        file.gap(last[1:] + sealed(last))
        meta = file.put(block([]))
        self.refused(file.ended(meta, file.put(block([(b"a", first), (b"bbb", handle(begin, len(last)))]))))
        file = File()
        first = file.put(content)
        begin = len(file.out)
        file.gap(last + sealed(last))
        meta = file.put(block([]))
        self.counted(file.ended(meta, file.put(block([(b"a", first), (b"bbb", handle(begin, len(last)))]))), 2)

    def test_the_same_data_block_twice(self):
        file = File()
        data = file.put(block([(b"a", b"")]))
        meta = file.put(block([]))
        self.refused(file.ended(meta, file.put(block([(b"a", data), (b"b", data)]))))


class SealTest(RefusalsTest):
    """The five bytes behind what's told of."""

    def table(self, change=None, mark=0, bit=0):
        file = File()

        def put(name, content):
            return file.put(content, mark, bit) if name == change else file.put(content)

        first = put("data", block([(b"a", b"1")]))
        second = put("second", block([(b"b", b"1")]))
        sieve = put("filter", filter_of([b"\0\1"]))
        meta = put("meta", block([(FILTER_NAME, sieve)]))
        return file.ended(meta, put("index", block([(b"a", first), (b"b", second)])))

    def test_sum_and_byte(self):
        self.counted(self.table(), 2)
        for name in ("data", "second", "filter", "meta", "index"):
            self.counted(self.table(name), 2)
            for bit in (1, 2, 128):
                self.refused(self.table(name, bit=bit))
            # The sum is of the byte too, so it's right with another byte.
            for mark in (1, 2, 255):
                self.refused(self.table(name, mark=mark))

    def test_every_byte_that_counts(self):
        table = table_of([[(b"a", b"1")], [(b"b", b"2")]], sieve=filter_of([b"\0\1"]))
        self.counted(table, 2)
        behind_handles = len(table) - 48 + 6
        for place in range(len(table) - 48):
            self.refused(table[:place] + [table[place] ^ 1] + table[place + 1:])
        for place in range(behind_handles, len(table) - 8):
            self.counted(table[:place] + [table[place] ^ 1] + table[place + 1:], 2)

    def test_unmasked_sum(self):
        content = block([])
        right = sealed(content)
        number = struct.unpack("<I", right[1:])[0]
        turned = (number - 0xA282EAD8) % 2 ** 32
        bare = (turned << 15 | turned >> 17) % 2 ** 32
        for five in (right, right[:1] + struct.pack("<I", bare), right[:1] + right[:0:-1]):
            file = File()
            file.gap(content + five)
            both = handle(0, len(content))
            self.assertEqual(desk.count(file.ended(both, both)), [0] if five == right else [-3])


class BlockTest(RefusalsTest):
    """Blocks: each is tried as a data block, and where it can be as index and meta too."""

    def in_data(self, content, last=b"z"):
        return table_of([content], [last])

    def refused_as_any(self, content):
        """The content is refused as a data block, as the index and as the meta block."""
        self.refused(self.in_data(content))
        file = File()
        right = file.put(block([]))
        wrong = file.put(content)
        self.refused(file.ended(right, wrong))
        self.refused(file.ended(wrong, right))

    def test_as_it_is(self):
        parts = [entry(0, b"a"), entry(1, b"b"), entry(0, b"b")]
        self.counted(self.in_data(packed(parts, [0, 8])), 3)

    def test_varints(self):
        for place in range(3):
            right = [varint(0), varint(1), varint(1)]
            self.counted(self.in_data(packed([b"".join(right) + b"ab"])), 1)
            self.counted(self.in_data(packed([b"".join(
                varint(number, 10 if i == place else 1) for i, number in enumerate((0, 1, 1))) + b"ab"])), 1)
            for wrong in (b"\x80" * 10 + b"\0", b"\x80" * 9 + b"\x01", b"\x81" + b"\x80" * 8 + b"\x02",
                          b"\x81" + b"\x80" * 9 + b"\x00", b"\x80" * 9 + b"\x7f", varint(2 ** 63), varint(2 ** 64)):
                parts = right[:place] + [wrong] + right[place + 1:]
                self.refused(self.in_data(packed([b"".join(parts) + b"ab"])))

    def test_entry_that_ends_early(self):
        whole = entry(0, b"a") + entry(0, b"bcd", b"efg", width=2)
        for length in range(len(whole) + 1):
            content = packed([whole[:length]])
            if length in (4, len(whole)):
                self.counted(self.in_data(content), 1 if length == 4 else 2)
            else:
                self.refused(self.in_data(content))

    def test_entry_past_the_end(self):
        for numbers in ((0, 3, 0), (0, 0, 3), (0, 2, 1), (0, 1, 2), (0, 2 ** 63 - 1, 0), (0, 1, 2 ** 63 - 1),
                        (0, 2 ** 32, 2), (0, 2 ** 32 + 1, 1), (0, 6, 0), (0, 10, 0), (0, 0, 10)):
            self.refused(self.in_data(packed([b"".join(varint(number) for number in numbers) + b"ab"])))
        self.counted(self.in_data(packed([varint(0) + varint(1) + varint(1) + b"ab"])), 1)

    def test_more_of_the_key_before_than_there_is(self):
        self.counted(self.in_data(packed([entry(0, b"ab"), entry(2, b"c")])), 2)
        self.refused(self.in_data(packed([entry(0, b"ab"), entry(3, b"c")])))
        self.refused(self.in_data(packed([entry(0, b"ab"), entry(2 ** 62, b"c")])))
        self.refused(self.in_data(packed([entry(1, b"ab")])))
        self.refused(self.in_data(packed([entry(1, b"")])))
        # A block's first key has no key before it, though the block before ended with one.
        content = packed([entry(1, b"c")])
        self.refused(table_of([block([(b"ab", b"")]), content], [b"ab", b"z"]))
        self.counted(table_of([block([(b"ab", b"")]), packed([entry(0, b"c")])], [b"ab", b"z"]), 2)

    def test_restarts(self):
        parts = [entry(0, b"a"), entry(1, b"b"), entry(0, b"b"), entry(0, b"c", b"12")]
        # Where the entries begin: 0, 4, 8, 12; they end at 18.
        for restarts in ([0], [0, 8], [0, 12], [0, 8, 12]):
            self.counted(self.in_data(packed(parts, restarts)), 4)
        for restarts in ([], [1], [4], [8], [8, 12], [8, 0], [0, 0], [0, 8, 8], [0, 12, 8], [0, 8, 12, 12],
                         [0, 8, 8, 12], [0, 0, 8], [0, 4], [0, 4, 8], [0, 8, 9], [0, 1], [0, 7], [0, 11], [0, 17],
                         [0, 18], [0, 19], [0, 8, 12, 18], [0, 2 ** 32 - 1], [0, 2 ** 31], [0, 22]):
            self.refused(self.in_data(packed(parts, restarts)))

    def test_first_varint_of_a_restart_that_is_a_longer_0(self):
        parts = [entry(0, b"a", width=10), entry(0, b"b", width=3)]
        self.counted(self.in_data(packed(parts, [0, len(parts[0])])), 2)

    def test_how_many_restarts(self):
        self.counted(self.in_data(packed([entry(0, b"a")], [0], 1)), 1)
        for count in (0, 2, 3, 2 ** 30, 2 ** 31, 2 ** 32 - 1):
            self.refused(self.in_data(packed([entry(0, b"a")], [0], count)))
        # Entries that look like restarts.
        self.refused(self.in_data(packed([bytes(4)], [0], 2)))
        self.refused(self.in_data(packed([bytes(4)], [4], 2)))
        self.refused(self.in_data(packed([], [0], 0)))

    def test_restarts_that_are_cut(self):
        # So many restarts are told, but one to three bytes of the first aren't there.
        for count in (1, 2, 3):
            restarts = struct.pack(f"<{count}I", *range(0, 3 * count, 3)) + struct.pack("<I", count)
            for missing in (1, 2, 3):
                self.refused_as_any(restarts[missing:])

    def test_lengths_below_the_least(self):
        for length in range(8):
            self.refused_as_any(bytes(length))
            self.refused_as_any((bytes(4) + b"\1\0\0\0")[8 - length:])

    def test_empty_blocks(self):
        file = File()
        right = file.put(packed([], [0]))
        self.counted(file.ended(right, right), 0)
        for content in (packed([], []), packed([], [1]), packed([], [8]), packed([], [0, 0]), packed([], [0, 1]),
                        packed([], [0, 4]), packed([], [0, 8]), packed([], [0], 0), packed([], [0], 2)):
            self.refused_as_any(content)

    def test_empty_data_block(self):
        self.refused(self.in_data(packed([])))
        self.refused(table_of([[(b"a", b"")], packed([])], [b"a", b"b"]))
        self.refused(table_of([packed([]), [(b"a", b"")]], [b"", b"a"]))
        self.refused(table_of([[(b"a", b"")], packed([]), [(b"c", b"")]], [b"a", b"b", b"c"]))
        self.counted(table_of([[(b"a", b"")], [(b"b", b"")], [(b"c", b"")]]), 3)

    def test_right_sum_over_what_is_no_block(self):
        for content in (b"", b"\0", noise(7), noise(8), noise(100), noise(5000), bytes(100), b"\xff" * 100,
                        bytes(96) + b"\1\0\0\0", filter_of([b"\0\1"])):
            self.refused_as_any(content)


class OrderTest(RefusalsTest):
    """All keys rise, and the index keys lie where they may."""

    def test_within_a_block(self):
        self.counted(table_of([packed([entry(0, b"b"), entry(0, b"c")])], [b"z"]), 2)
        for second in (entry(0, b"b"), entry(1, b""), entry(0, b"a"), entry(0, b""), entry(0, b"aff"),
                       entry(0, b"b", b"other")):
            self.refused(table_of([packed([entry(0, b"b"), second])], [b"z"]))
        for second in (b"b", b"a", b"", b"aff"):
            self.refused(table_of([packed([entry(0, b"b"), entry(0, second)], [0, 4])], [b"z"]))

    def test_longer_keys_within_a_block(self):
        before = entry(0, b"bcd")
        for second in (entry(2, b"d"), entry(3, b""), entry(2, b"c"), entry(2, b""), entry(1, b"c"), entry(1, b"bzz"),
                       entry(0, b"bc"), entry(0, b"bcd"), entry(0, b"bccz"), entry(0, b"azzzz"), entry(0, b"")):
            self.refused(table_of([packed([before, second])], [b"z"]))
        for second in (entry(3, b"\0"), entry(2, b"e"), entry(2, b"da"), entry(1, b"d"), entry(0, b"c"),
                       entry(0, b"bcda"), entry(0, b"be"), entry(1, b"cd\0")):
            self.counted(table_of([packed([before, second])], [b"z"]), 2)

    def test_high_bytes_come_last(self):
        self.counted(table_of([[(b"\x7f", b""), (b"\x80", b""), (b"\xff", b"")]]), 3)
        self.refused(table_of([packed([entry(0, b"\x80"), entry(0, b"\x7f")])], [b"\xff"]))

    def test_two_empty_keys(self):
        self.refused(table_of([packed([entry(0, b""), entry(0, b"")])], [b"z"]))
        self.refused(table_of([[(b"", b"")], [(b"", b"")]], [b"", b"a"]))

    def test_from_one_block_to_the_next(self):
        first = [(b"b", b""), (b"d", b"")]
        for key in (b"a", b"b", b"c", b"d", b"", b"cz"):
            self.refused(table_of([first, [(key, b"")]], [b"d", b"z"]))
        for key in (b"d\0", b"da", b"e"):
            self.counted(table_of([first, [(key, b"")]], [b"d", b"z"]), 3)

    def test_index_key_before_its_last_key(self):
        first = [(b"b", b""), (b"dd", b"")]
        second = [(b"f", b"")]
        for key in (b"d", b"dc", b"c", b"b", b"", b"dcz"):
            self.refused(table_of([first, second], [key, b"f"]))
        for key in (b"dd", b"dda", b"e", b"ezz"):
            self.counted(table_of([first, second], [key, b"f"]), 3)
        for key in (b"ez", b"e"):
            self.refused(table_of([first, second], [b"dd", key]))
            self.refused(table_of([second], [key]))

    def test_index_key_not_before_the_next_first_key(self):
        first = [(b"b", b"")]
        second = [(b"fg", b""), (b"h", b"")]
        for key in (b"fg", b"fga", b"fh", b"g", b"h", b"z"):
            self.refused(table_of([first, second], [key, b"z"]))
        for key in (b"f", b"ff", b"fff", b"e", b"b"):
            self.counted(table_of([first, second], [key, b"z"]), 3)

    def test_a_block_in_the_middle(self):
        blocks = [[(b"b", b"")], [(b"d", b"")], [(b"f", b"")]]
        self.counted(table_of(blocks), 3)
        for keys in ([b"b", b"c", b"f"], [b"b", b"f", b"f"], [b"d", b"d", b"f"], [b"a", b"d", b"f"],
                     [b"b", b"d", b"e"], [b"c", b"g", b"h"]):
            self.refused(table_of(blocks, keys))


class MetaTest(RefusalsTest):
    def with_meta(self, parts, restarts=(0,)):
        file = File()
        data = file.put(block(PAIRS))
        sieve = file.put(filter_of([b"\0\1"]))
        meta = file.put(packed([part(sieve) for part in parts], restarts))
        return file.ended(meta, file.put(block([(b"b", data)])))

    def test_as_it_is(self):
        self.counted(self.with_meta([]), 3)
        self.counted(self.with_meta([lambda sieve: entry(0, FILTER_NAME, sieve)]), 3)

    def test_other_names(self):
        for name in (b"", b"filter", FILTER_NAME[:-1], FILTER_NAME + b"\0", FILTER_NAME + b"2", FILTER_NAME.upper(),
                     b"filter.leveldb.BuiltinBloomFilter", b"filter.leveldb.BuiltinBloomFilter3", b"\0" + FILTER_NAME):
            self.refused(self.with_meta([lambda sieve, name=name: entry(0, name, sieve)]))

    def test_two_entries(self):
        right = lambda sieve: entry(0, FILTER_NAME, sieve)
        self.refused(self.with_meta([right, lambda sieve: entry(len(FILTER_NAME), b"2", sieve)]))
        self.refused(self.with_meta([right, lambda sieve: entry(0, b"z", sieve)]))
        self.refused(self.with_meta([lambda sieve: entry(0, b"a", sieve), right]))
        self.refused(self.with_meta([lambda sieve: entry(0, b"a"), right]))
        self.refused(self.with_meta([right, right]))

    def test_restarts(self):
        right = lambda sieve: entry(0, FILTER_NAME, sieve)
        self.refused(self.with_meta([right], []))
        self.refused(self.with_meta([right], [0, 0]))
        self.refused(self.with_meta([right], [0, 3]))
        self.refused(self.with_meta([right], [1]))


class FilterTest(RefusalsTest):
    def with_filter(self, content):
        return table_of([PAIRS], sieve=content)

    def test_as_it_is(self):
        self.counted(self.with_filter(filter_of([])), 3)
        self.counted(self.with_filter(filter_of([b"abc", b"de"])), 3)

    def test_shorter_than_its_end(self):
        for length in range(5):
            self.refused(self.with_filter((b"\0\0\0\0\x0b")[5 - length:]))
            self.refused(self.with_filter(b"\x0b" * length))
        self.counted(self.with_filter(b"\0\0\0\0\x0b"), 3)

    def test_its_last_byte(self):
        for last in (0, 1, 10, 12, 139, 255):
            self.refused(self.with_filter(filter_of([b"abc"], last=last)))

    def test_where_the_places_begin(self):
        # Three bytes, one place, five bytes more: the places begin at 3, and none may begin behind 7.
        content = filter_of([b"abc"], [0])
        self.assertEqual(len(content), 12)
        for told in (8, 9, 11, 12, 100, 2 ** 31, 2 ** 32 - 1):
            self.refused(self.with_filter(filter_of([b"abc"], [0], told)))
        # Four bytes for each place, and nothing else.
        for told in (4, 5, 6, 0, 1, 2):
            self.refused(self.with_filter(filter_of([b"abc"], [0], told)))
        self.counted(self.with_filter(filter_of([b"abc"], [0], 7)), 3)
        self.counted(self.with_filter(filter_of([b"abc"], [0], 3)), 3)

    def test_places_of_four_bytes_each(self):
        for length in range(14):
            table = self.with_filter(bytes(length) + b"\0\0\0\0\x0b")
            if length % 4 == 0:
                self.counted(table, 3)
            else:
                self.refused(table)

    def test_places_past_where_they_are_told(self):
        for places in ([4], [0, 4], [3, 4], [0, 2, 5], [2 ** 32 - 1], [0, 2 ** 31], [100, 3], [4, 4]):
            self.refused(self.with_filter(filter_of([b"abc"], places)))
        for places in ([3], [0, 3], [3, 3], [0, 0]):
            self.counted(self.with_filter(filter_of([b"abc"], places)), 3)

    def test_places_that_fall(self):
        for places in ([1, 0], [3, 2], [0, 2, 1], [0, 3, 2, 3], [2, 1, 3], [3, 3, 0]):
            self.refused(self.with_filter(filter_of([b"abc"], places)))

    def test_of_a_table_that_is_made(self):
        table = desk.make(16, 4096, 10, 10000, rows_of(PAIRS))[1:]
        self.counted(table, 3)
        for place in range(len(table) - 48):
            self.refused(table[:place] + [table[place] ^ 64] + table[place + 1:])


if __name__ == "__main__":
    unittest.main()
