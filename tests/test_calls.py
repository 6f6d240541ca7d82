"""What holds of every call: its names and kinds, and that it changes, keeps, prints and reads nothing."""
import builtins
import contextlib
import inspect
import io
import unittest
from unittest import mock

from keylogs import desk
from tests.helper import Table, noise, row, rows_of

LONGEST = 16777216
SMALL = rows_of([(b"", b"1"), (b"a", b""), (b"ab", b"22")])
LARGE = rows_of([(b"%05d" % i, noise(i % 50, i + 1)) for i in range(2000)])
UNSORTED = row(b"b", b"") + row(b"a", b"")

# One of each kind of call: a function's name, its numbers, its list.
CALLS = [
    ("sum_of", (0,), []),
    ("sum_of", (4294967295,), []),
    ("sum_of", (0,), list(range(256))),
    ("sum_of", (3808858755,), list(noise(5000))),
    ("make", (16, 4096, 10, LONGEST), []),
    ("make", (16, 4096, 0, LONGEST), SMALL),
    ("make", (1, 64, 20, LONGEST), SMALL),
    ("make", (3, 100, 7, LONGEST), LARGE),
    ("make", (0, 4096, 10, LONGEST), SMALL),
    ("make", (16, 4096, 10, -1), UNSORTED),
    ("make", (16, 4096, 10, LONGEST), UNSORTED),
    ("make", (16, 4096, 10, LONGEST), SMALL[:-1]),
    ("make", (16, 4096, 10, 100), LARGE),
]


class Watched(list):
    """A list that can't be changed, not for a while either."""

    def refuse(self, *arguments, **named):
        raise AssertionError("what was handed in is changed")

    append = extend = insert = pop = remove = clear = sort = reverse = refuse
    __setitem__ = __delitem__ = __iadd__ = __imul__ = refuse


def answer(name, numbers, data):
    return getattr(desk, name)(*numbers, data)


class NamesTest(unittest.TestCase):
    def test_parameters(self):
        self.assertEqual(list(inspect.signature(desk.sum_of).parameters), ["start", "data"])
        self.assertEqual(
            list(inspect.signature(desk.make).parameters), ["interval", "block", "bits", "most", "rows"])

    def test_by_name(self):
        self.assertEqual(desk.sum_of(data=[49], start=7), desk.sum_of(7, [49]))
        self.assertEqual(
            desk.make(rows=SMALL, most=300, bits=5, block=64, interval=2), desk.make(2, 64, 5, 300, SMALL))


class EveryCallTest(unittest.TestCase):
    def test_kinds(self):
        for name, numbers, data in CALLS:
            given = answer(name, numbers, data)
            self.assertIs(type(given), list)
            self.assertEqual({type(number) for number in given}, {int})

    def test_refused_by_the_number_alone(self):
        refusals = [answer(*call) for call in CALLS if answer(*call)[0] < 0]
        self.assertEqual(refusals, [[-2], [-2], [-4], [-4], [-7]])

    def test_as_many_bytes_as_told(self):
        for name, numbers, data in CALLS:
            given = answer(name, numbers, data)
            if name == "make" and given[0] >= 0:
                self.assertEqual(given[0], len(given) - 1)
                self.assertTrue(all(0 <= number <= 255 for number in given[1:]))

    def test_what_is_handed_in_stays(self):
        for name, numbers, data in CALLS:
            handed = list(data)
            first = answer(name, numbers, handed)
            self.assertEqual(handed, data)
            self.assertEqual(answer(name, numbers, Watched(data)), first)

    def test_second_call_answers_the_same(self):
        first = [answer(*call) for call in CALLS]
        self.assertEqual([answer(*call) for call in CALLS], first)
        self.assertEqual([answer(*call) for call in reversed(CALLS)], first[::-1])

    def test_answers_are_their_own(self):
        for name, numbers, data in CALLS:
            handed = list(data)
            first = answer(name, numbers, handed)
            kept = list(first)
            first.extend([1, 2, 3])
            first[0] = 99
            self.assertEqual(handed, data)
            self.assertEqual(answer(name, numbers, handed), kept)
            handed.append(1)
            handed[0] = 255
            self.assertEqual(answer(name, numbers, list(data)), kept)

    def test_nothing_printed_read_or_imported(self):
        printed = io.StringIO()
        refuse = mock.Mock(side_effect=AssertionError("not asked for"))
        for name, numbers, data in CALLS:
            with contextlib.redirect_stdout(printed), contextlib.redirect_stderr(printed), \
                    mock.patch.object(builtins, "open", refuse), mock.patch.object(builtins, "input", refuse), \
                    mock.patch.object(builtins, "__import__", refuse):
                answer(name, numbers, data)
        self.assertEqual(printed.getvalue(), "")


class LongTest(unittest.TestCase):
    """As long as may be: a call within a call for each step would go too deep."""

    def made(self, entries, block):
        rows = rows_of(entries)
        self.assertLessEqual(len(rows), 100000)
        given = desk.make(1, block, 20, LONGEST, rows)
        self.assertEqual(Table(given).entries(), entries)

    def test_many_rows(self):
        entries = [(i.to_bytes(2, "big"), b"") for i in range(12500)]
        self.made(entries, 64)
        self.made(entries, 65536)

    def test_long_keys(self):
        self.made([(b"k" * 49990, b""), (b"k" * 49991, b"")], 64)
        self.made([(b"\xff" * 65535, b"")], 64)

    def test_long_value(self):
        self.made([(b"k", noise(99993))], 64)


if __name__ == "__main__":
    unittest.main()
