"""What holds of every call: its names and kinds, and that it changes, keeps, prints and reads nothing."""
import builtins
import contextlib
import inspect
import io
import unittest
from unittest import mock

from keylogs import desk
from tests.forge import entry, packed, table_of
from tests.helper import Table, files_of, noise, row, rows_of

LONGEST = 16777216
SMALL = rows_of([(b"", b"1"), (b"a", b""), (b"ab", b"22")])
LARGE = rows_of([(b"%05d" % i, noise(i % 50, i + 1)) for i in range(2000)])
UNSORTED = row(b"b", b"") + row(b"a", b"")
TABLE = desk.make(2, 64, 10, LONGEST, SMALL)[1:]
LARGE_TABLE = desk.make(16, 1000, 10, LONGEST, LARGE)[1:]
NO_TABLE = TABLE[:-1]
LONG_KEY = table_of([[(b"k" * 65536, b"")]])
FILES = files_of(TABLE, LARGE_TABLE, TABLE)
NOISE = list(noise(20000))
LOG = desk.write(0, 10, [1, 2, 3])[1:] + desk.write(10, 7, [])[1:] + desk.write(17, LONGEST, NOISE * 4)[1:]
FAR_TOO_LONG = files_of(
    table_of([packed([entry(0, b"k" * 20000)] + [entry(20000 + i, b"k") for i in range(3000)])], [b"l"]))

PARAMETERS = {
    "sum_of": ["start", "data"],
    "make": ["interval", "block", "bits", "most", "rows"],
    "count": ["table"],
    "get": ["most", "table", "key"],
    "at": ["i", "most", "table"],
    "may": ["table", "key"],
    "merge": ["interval", "block", "bits", "most", "files"],
    "write": ["place", "most", "data"],
    "read": ["place", "most", "log"],
}

# One of each kind of call, with what it answers first; None where that's tested elsewhere.
CALLS = [
    ("sum_of", (0, []), 0),
    ("sum_of", (4294967295, []), 4294967295),
    ("sum_of", (0, list(range(256))), None),
    ("sum_of", (3808858755, list(noise(5000))), None),
    ("make", (16, 4096, 10, LONGEST, []), None),
    ("make", (16, 4096, 0, LONGEST, SMALL), None),
    ("make", (1, 64, 20, LONGEST, SMALL), None),
    ("make", (3, 100, 7, LONGEST, LARGE), None),
    ("make", (0, 4096, 10, LONGEST, SMALL), -2),
    ("make", (16, 4096, 10, -1, UNSORTED), -2),
    ("make", (16, 4096, 10, LONGEST, UNSORTED), -4),
    ("make", (16, 4096, 10, LONGEST, SMALL[:-1]), -4),
    ("make", (16, 4096, 10, 100, LARGE), -7),
    ("count", ([],), -3),
    ("count", (NO_TABLE,), -3),
    ("count", (NOISE,), -3),
    ("count", (TABLE,), 3),
    ("count", (LARGE_TABLE,), 2000),
    ("get", (10, TABLE, []), 1),
    ("get", (10, TABLE, [97]), 0),
    ("get", (10, TABLE, [97, 98]), 2),
    ("get", (100, LARGE_TABLE, list(b"01049")), 49),
    ("get", (10, TABLE, [97] * 65536), -2),
    ("get", (-1, TABLE, [97]), -2),
    ("get", (10, NO_TABLE, [97]), -3),
    ("get", (10, NOISE, [97]), -3),
    ("get", (10, TABLE, [98]), -5),
    ("get", (1, TABLE, [97, 98]), -7),
    ("at", (0, 100, TABLE), 7),
    ("at", (2, 100, TABLE), 10),
    ("at", (1999, 100, LARGE_TABLE), 60),
    ("at", (-1, 100, NO_TABLE), -2),
    ("at", (0, -1, TABLE), -2),
    ("at", (0, 100, NO_TABLE), -3),
    ("at", (0, 100, NOISE), -3),
    ("at", (3, 100, TABLE), -5),
    ("at", (0, 100000, LONG_KEY), -6),
    ("at", (2, 9, TABLE), -7),
    ("may", (TABLE, []), 1),
    ("may", (TABLE, [97, 98]), 1),
    ("may", (TABLE, [97, 97]), 0),
    ("may", (TABLE, [98] * 65535), 0),
    ("may", (LARGE_TABLE, list(b"01049")), 1),
    ("may", (TABLE, [98] * 65536), -2),
    ("may", (NO_TABLE, [97]), -3),
    ("may", (NOISE, [97]), -3),
    ("merge", (16, 4096, 10, LONGEST, []), None),
    ("merge", (1, 64, 0, LONGEST, files_of(TABLE)), None),
    ("merge", (5, 500, 7, LONGEST, FILES), None),
    ("merge", (16, 4096, 21, LONGEST, FILES), -2),
    ("merge", (16, 4096, 10, -1, NOISE), -2),
    ("merge", (16, 4096, 10, LONGEST, FILES[:-1]), -3),
    ("merge", (16, 4096, 10, 0, FILES + [0]), -3),
    ("merge", (16, 4096, 10, LONGEST, NOISE), -3),
    ("merge", (16, 4096, 10, 1000, FILES), -7),
    ("merge", (1, 4096, 10, 1000000, FAR_TOO_LONG), -7),
    ("write", (0, 100, []), 7),
    ("write", (32765, 100, [1, 2, 3]), 13),
    ("write", (2147483647, LONGEST, NOISE * 5), 100029),
    ("write", (-1, 100, []), -2),
    ("write", (0, -1, NOISE), -2),
    ("write", (0, 20000, NOISE), -7),
    ("read", (0, 100, LOG), 3),
    ("read", (10, 100, LOG), 0),
    ("read", (17, LONGEST, LOG), 80000),
    ("read", (-1, 100, LOG), -2),
    ("read", (len(LOG) + 1, 100, LOG), -2),
    ("read", (0, -1, NOISE), -2),
    ("read", (len(LOG), 100, LOG), -3),
    ("read", (17, 100, LOG[:-1]), -3),
    ("read", (1, 100, LOG), -4),
    ("read", (0, 100, NOISE), -4),
    ("read", (17, 79999, LOG), -7),
]
# What's answered behind the number that comes first: so many bytes, and how many numbers behind them.
BEHIND_BYTES = {"make": 0, "get": 0, "at": 0, "merge": 0, "write": 0, "read": 1}


class Watched(list):
    """A list that can't be changed, not for a while either."""

    def refuse(self, *arguments, **named):
        raise AssertionError("what was handed in is changed")

    append = extend = insert = pop = remove = clear = sort = reverse = refuse
    __setitem__ = __delitem__ = __iadd__ = __imul__ = refuse


def copied(arguments):
    """The arguments with lists of their own."""
    return [list(part) if isinstance(part, list) else part for part in arguments]


def answer(name, arguments):
    return getattr(desk, name)(*arguments)


class NamesTest(unittest.TestCase):
    def test_parameters(self):
        for name, parameters in PARAMETERS.items():
            self.assertEqual(list(inspect.signature(getattr(desk, name)).parameters), parameters)

    def test_by_name(self):
        for name, arguments, first in CALLS:
            named = dict(reversed(list(zip(PARAMETERS[name], arguments))))
            self.assertEqual(getattr(desk, name)(**named), answer(name, arguments))

    def test_all_are_called_here(self):
        self.assertEqual(list(dict.fromkeys(name for name, arguments, first in CALLS)), list(PARAMETERS))


class EveryCallTest(unittest.TestCase):
    def test_kinds(self):
        for name, arguments, first in CALLS:
            given = answer(name, arguments)
            self.assertIs(type(given), list)
            self.assertEqual({type(number) for number in given}, {int})

    def test_what_is_answered_first(self):
        for name, arguments, first in CALLS:
            given = answer(name, arguments)
            if first is None:
                self.assertGreaterEqual(given[0], 0)
            else:
                self.assertEqual(given[0], first)

    def test_refused_by_the_number_alone(self):
        for name, arguments, first in CALLS:
            given = answer(name, arguments)
            if given[0] < 0:
                self.assertEqual(len(given), 1)

    def test_as_many_bytes_as_told(self):
        for name, arguments, first in CALLS:
            given = answer(name, arguments)
            if name in BEHIND_BYTES and given[0] >= 0:
                self.assertEqual(len(given), 1 + given[0] + BEHIND_BYTES[name])
                self.assertTrue(all(0 <= number <= 255 for number in given[1:1 + given[0]]))
            else:
                self.assertEqual(len(given), 1)

    def test_what_is_handed_in_stays(self):
        for name, arguments, first in CALLS:
            handed = copied(arguments)
            given = answer(name, handed)
            self.assertEqual(handed, list(arguments))
            watched = [Watched(part) if isinstance(part, list) else part for part in arguments]
            self.assertEqual(answer(name, watched), given)

    def test_second_call_answers_the_same(self):
        first = [answer(*call[:2]) for call in CALLS]
        self.assertEqual([answer(*call[:2]) for call in CALLS], first)
        self.assertEqual([answer(*call[:2]) for call in reversed(CALLS)], first[::-1])

    def test_answers_are_their_own(self):
        for name, arguments, first in CALLS:
            handed = copied(arguments)
            given = answer(name, handed)
            kept = list(given)
            given.extend([1, 2, 3])
            given[0] = 99
            self.assertEqual(handed, list(arguments))
            self.assertEqual(answer(name, handed), kept)
            for part in handed:
                if isinstance(part, list):
                    part.append(1)
                    part[0] = 255
            self.assertEqual(answer(name, copied(arguments)), kept)

    def test_nothing_printed_read_or_imported(self):
        printed = io.StringIO()
        refuse = mock.Mock(side_effect=AssertionError("not asked for"))
        for name, arguments, first in CALLS:
            with contextlib.redirect_stdout(printed), contextlib.redirect_stderr(printed), \
                    mock.patch.object(builtins, "open", refuse), mock.patch.object(builtins, "input", refuse), \
                    mock.patch.object(builtins, "__import__", refuse):
                answer(name, arguments)
        self.assertEqual(printed.getvalue(), "")


class TooManyTest(unittest.TestCase):
    """Bytes of which there are more than may be, or just as many."""

    def test_one_too_many(self):
        many = [0] * (LONGEST + 1)
        self.assertEqual(desk.sum_of(7, many), [0])
        self.assertEqual(desk.make(16, 4096, 10, 100, many), [-2])
        self.assertEqual(desk.count(many), [-2])
        self.assertEqual(desk.get(100, many, []), [-2])
        self.assertEqual(desk.at(0, 100, many), [-2])
        self.assertEqual(desk.may(many, []), [-2])
        self.assertEqual(desk.merge(16, 4096, 10, 100, many), [-2])
        self.assertEqual(desk.write(0, 100, many), [-2])
        self.assertEqual(desk.read(0, 100, many), [-2])

    def test_just_as_many(self):
        many = [0] * LONGEST
        self.assertEqual(desk.make(16, 4096, 10, 100, many), [-4])
        self.assertEqual(desk.count(many), [-3])
        self.assertEqual(desk.get(100, many, []), [-3])
        self.assertEqual(desk.at(0, 100, many), [-3])
        self.assertEqual(desk.may(many, []), [-3])
        self.assertEqual(desk.merge(16, 4096, 10, 100, [255] * LONGEST), [-3])
        self.assertEqual(desk.read(0, 100, many), [-4])


class LongTest(unittest.TestCase):
    """As long as may be: a call within a call for each step would go too deep."""

    def made(self, entries, block):
        rows = rows_of(entries)
        self.assertLessEqual(len(rows), 100000)
        given = desk.make(1, block, 20, LONGEST, rows)
        self.assertEqual(Table(given).entries(), entries)
        self.assertEqual(desk.count(given[1:]), [len(entries)])
        key, value = entries[-1]
        self.assertEqual(desk.get(LONGEST, given[1:], list(key)), [len(value)] + list(value))
        last = row(key, value)
        self.assertEqual(desk.at(len(entries) - 1, LONGEST, given[1:]), [len(last)] + last)
        self.assertEqual(desk.may(given[1:], list(key)), [1])

    def test_many_rows(self):
        entries = [(i.to_bytes(2, "big"), b"") for i in range(12500)]
        self.made(entries, 64)
        self.made(entries, 65536)

    def test_long_keys(self):
        self.made([(b"k" * 49990, b""), (b"k" * 49991, b"")], 64)
        self.made([(b"\xff" * 65535, b"")], 64)

    def test_long_value(self):
        self.made([(b"k", noise(99993))], 64)

    def test_long_record(self):
        data = list(noise(100000))
        log = desk.write(0, LONGEST, data)[1:]
        self.assertEqual(desk.read(0, LONGEST, log), [100000] + data + [len(log)])


if __name__ == "__main__":
    unittest.main()
