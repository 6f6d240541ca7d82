"""Promise 8: read."""
import struct
import unittest

from keylogs import desk
from tests.helper import crc32c_fast, log_piece as piece, masked, noise

LONGEST = 16777216
BLOCK = 32768
# Where a record is tried: at beginnings, in the midst, and where 8 bytes down to 1 are left in a block.
PLACES = [0, 1, 500, 30000] + [BLOCK - left for left in range(8, 0, -1)] + [BLOCK, BLOCK + 7]


def read(place, log, most=LONGEST):
    return desk.read(place, most, list(log))


def written(place, content):
    return bytes(desk.write(place, LONGEST, list(content))[1:])


def answer(content, end):
    return [len(content)] + list(content) + [end]


class RangeTest(unittest.TestCase):
    """-2, before all else."""

    def test_place(self):
        log = piece(1, b"abc")
        for place in (-1, -2147483648, 11, 12, 2147483647):
            self.assertEqual(read(place, log), [-2])
        self.assertEqual(read(0, log), answer(b"abc", 10))
        self.assertEqual(read(10, log), [-3])
        self.assertEqual(read(0, b""), [-3])
        self.assertEqual(read(1, b""), [-2])
        self.assertEqual(read(-1, b""), [-2])

    def test_most(self):
        for log in (piece(1, b"abc"), piece(1, b"abc")[:-1], piece(1, b"abc", 1), b""):
            for most in (-1, LONGEST + 1, -2147483648, 2147483647):
                self.assertEqual(read(0, log, most), [-2])
                self.assertEqual(read(len(log) + 1, log, most), [-2])
        self.assertEqual(read(0, piece(1, b"abc"), LONGEST), answer(b"abc", 10))
        self.assertEqual(read(0, piece(1, b"abc"), 0), [-7])
        self.assertEqual(read(0, piece(1, b""), 0), answer(b"", 7))


class BackTest(unittest.TestCase):
    """What's written is read back."""

    def test_records(self):
        for place in PLACES:
            for length in (0, 1, 2, 100, 32760 - place % BLOCK, 32761 - place % BLOCK, 32762 - place % BLOCK, 33000,
                           70000 - place):
                if length >= 0:
                    content = noise(length, place + 1)
                    log = bytes(place) + written(place, content)
                    self.assertEqual(read(place, log), answer(content, len(log)))
                    self.assertEqual(read(place, log + b"\xff" * 9), answer(content, len(log)))

    def test_several_blocks(self):
        for length in (32761 * 2 - 1, 32761 * 2, 32761 * 2 + 1, 99000):
            content = noise(length)
            log = written(0, content)
            self.assertEqual(read(0, log), answer(content, len(log)))

    def test_one_behind_another(self):
        records = [noise(length, length + 1) for length in (0, 5, 32700, 1, 3, 0, 60, 30000, 0, 2500, 32761, 7, 100)]
        log = b""
        for content in records:
            log += written(len(log), content)
        place = 0
        for content in records:
            given = read(place, log)
            self.assertEqual(given[:-1], [len(content)] + list(content))
            place = given[-1]
        self.assertEqual(place, len(log))
        self.assertEqual(read(place, log), [-3])

    def test_from_the_midst(self):
        # A place within a record isn't one where a record begins.
        log = written(0, noise(100)) + written(107, b"next")
        for place in range(1, 107):
            self.assertIn(read(place, log), ([-3], [-4]))
        self.assertEqual(read(107, log), answer(b"next", 118))

    def test_log_of_other_things_before(self):
        log = noise(1234) + piece(1, b"abc")
        self.assertEqual(read(1234, log), answer(b"abc", 1244))


class BlockEndTest(unittest.TestCase):
    """Fewer than 7 bytes at a block's end."""

    def test_zeros(self):
        for left in range(1, 7):
            log = bytes(BLOCK) + piece(1, b"abc")
            self.assertEqual(read(BLOCK - left, log), answer(b"abc", BLOCK + 10))
            log = bytes(2 * BLOCK) + piece(2, b"abc") + piece(4, b"d")
            self.assertEqual(read(2 * BLOCK - left, log), answer(b"abcd", 2 * BLOCK + 18))

    def test_log_that_ends_there(self):
        for left in range(1, 7):
            for length in range(BLOCK - left, BLOCK + 10):
                log = (bytes(BLOCK) + piece(1, b"abc"))[:length]
                self.assertEqual(read(BLOCK - left, log), [-3])

    def test_seven_left(self):
        log = bytes(BLOCK - 7) + piece(1, b"")
        self.assertEqual(read(BLOCK - 7, log), answer(b"", BLOCK))
        log = bytes(BLOCK - 7) + piece(2, b"") + piece(4, b"abc")
        self.assertEqual(read(BLOCK - 7, log), answer(b"abc", BLOCK + 10))
        # Seven 0s are a piece, and its sum isn't right.
        self.assertEqual(read(BLOCK - 7, bytes(BLOCK) + piece(1, b"abc")), [-4])

    def test_between_pieces(self):
        for left in range(7):
            first = noise(100)
            log = bytes(BLOCK - left - 107) + piece(2, first) + bytes(left) + piece(4, b"end")
            self.assertEqual(read(BLOCK - left - 107, log), answer(first + b"end", BLOCK + 10))

    def test_ends_before_the_zeros(self):
        # The place where a record ends is behind its last piece, not behind the 0s.
        log = bytes(BLOCK - 20) + piece(1, noise(10)) + bytes(3) + piece(1, b"abc")
        self.assertEqual(read(BLOCK - 20, log), answer(noise(10), BLOCK - 3))
        self.assertEqual(read(BLOCK - 3, log), answer(b"abc", BLOCK + 10))


class EndsTest(unittest.TestCase):
    """-3: the log ends before the record does."""

    def test_cut_in_one_piece(self):
        for place in (0, 1, 100, BLOCK - 30, BLOCK - 3, BLOCK):
            log = bytes(place) + written(place, b"some bytes")
            for length in range(place, len(log)):
                self.assertEqual(read(place, log[:length]), [-3])
            self.assertEqual(read(place, log), answer(b"some bytes", len(log)))

    def test_cut_in_two_pieces(self):
        for place in (BLOCK - 27, BLOCK - 8, BLOCK - 7):
            content = noise(40)
            log = bytes(place) + written(place, content)
            self.assertEqual(len(log), place + 54)
            for length in range(place, len(log)):
                self.assertEqual(read(place, log[:length]), [-3])
            self.assertEqual(read(place, log), answer(content, len(log)))

    def test_cut_in_several_pieces(self):
        place = BLOCK - 27
        content = noise(32800)
        log = bytes(place) + written(place, content)
        first = place + 27
        second = 2 * BLOCK
        for length in list(range(place, first + 40)) + list(range(second - 30, len(log))):
            self.assertEqual(read(place, log[:length]), [-3])
        for length in range(first, len(log), 1999):
            self.assertEqual(read(place, log[:length]), [-3])
        self.assertEqual(read(place, log), answer(content, len(log)))

    def test_cut_between_small_pieces(self):
        log = piece(2, b"a") + piece(3, b"b") + piece(4, b"c")
        for length in range(len(log)):
            self.assertEqual(read(0, log[:length]), [-3])
        self.assertEqual(read(0, log), answer(b"abc", 24))

    def test_nothing_behind_a_first_piece(self):
        self.assertEqual(read(0, piece(2, b"abc")), [-3])
        self.assertEqual(read(0, piece(2, b"abc") + piece(3, b"d")), [-3])
        log = written(0, noise(40000))
        self.assertEqual(read(0, log[:BLOCK]), [-3])

    def test_at_the_end(self):
        for length in (0, 1, 7, 100, BLOCK - 3, BLOCK, BLOCK + 1):
            self.assertEqual(read(length, bytes(length)), [-3])
            for left in range(1, 7):
                if left <= length:
                    self.assertEqual(read(length - left, noise(length)), [-3])


class DamagedTest(unittest.TestCase):
    """-4: a piece's sum or type isn't right, or it goes over its block's end."""

    def test_sum(self):
        for change in (1, 2 ** 8, 2 ** 31):
            self.assertEqual(read(0, piece(1, b"abc", change)), [-4])
            self.assertEqual(read(0, piece(1, b"", change)), [-4])
            self.assertEqual(read(0, piece(2, b"abc", change) + piece(4, b"d")), [-4])
            self.assertEqual(read(0, piece(2, b"abc") + piece(3, b"d", change) + piece(4, b"e")), [-4])
            self.assertEqual(read(0, piece(2, b"abc") + piece(4, b"d", change)), [-4])

    def test_every_byte(self):
        log = piece(2, b"abc") + piece(4, b"d")
        for place in range(len(log)):
            for bit in (1, 128):
                changed = bytearray(log)
                changed[place] ^= bit
                self.assertEqual(read(0, changed + bytes(40000)), [-4])

    def test_sum_without_the_type_or_unmasked(self):
        content = b"abc"
        for seal in (masked(crc32c_fast(content)), crc32c_fast(b"\1" + content),
                     masked(crc32c_fast(content + b"\1")), masked(crc32c_fast(b"\3\0\1" + content))):
            self.assertEqual(read(0, struct.pack("<IHB", seal, 3, 1) + content), [-4])

    def test_zeros(self):
        self.assertEqual(read(0, bytes(7)), [-4])
        self.assertEqual(read(0, bytes(100)), [-4])
        self.assertEqual(read(0, bytes(100000)), [-4])

    def test_first_type(self):
        for kind in (0, 3, 4, 5, 6, 127, 128, 129, 255):
            self.assertEqual(read(0, piece(kind, b"abc")), [-4])
            self.assertEqual(read(0, piece(kind, b"abc") + piece(4, b"d")), [-4])

    def test_later_types(self):
        for kind in (0, 1, 2, 5, 6, 131, 132, 255):
            self.assertEqual(read(0, piece(2, b"abc") + piece(kind, b"d") + piece(4, b"e")), [-4])
            self.assertEqual(read(0, piece(2, b"a") + piece(3, b"b") + piece(kind, b"d") + piece(4, b"e")), [-4])
            self.assertEqual(read(0, piece(2, b"a") + piece(3, b"b") + piece(3, b"c") + piece(kind, b"d")), [-4])

    def test_types_that_are_right(self):
        self.assertEqual(read(0, piece(1, b"a") + piece(4, b"b")), answer(b"a", 8))
        self.assertEqual(read(0, piece(2, b"a") + piece(4, b"b") + piece(4, b"c")), answer(b"ab", 16))
        log = piece(2, b"a") + b"".join(piece(3, bytes([i])) for i in range(100)) + piece(4, b"z")
        self.assertEqual(read(0, log + piece(3, b"more")), answer(b"a" + bytes(range(100)) + b"z", len(log)))

    def test_over_the_blocks_end(self):
        for place in (0, 100, BLOCK - 50, BLOCK - 7, BLOCK):
            room = BLOCK - place % BLOCK - 7
            content = noise(room)
            self.assertEqual(read(place, bytes(place) + piece(1, content)), answer(content, place + room + 7))
            # The sum is right, and all the bytes are there.
            for more in (1, 2, 7, 20):
                content = noise(room + more)
                self.assertEqual(read(place, bytes(place) + piece(1, content)), [-4])
        log = bytes(BLOCK - 20) + piece(2, noise(3)) + piece(4, noise(4))
        self.assertEqual(read(BLOCK - 20, log), [-4])
        log = bytes(BLOCK - 20) + piece(2, noise(3)) + piece(4, noise(3))
        self.assertEqual(read(BLOCK - 20, log), answer(noise(3) * 2, BLOCK))


class OrderTest(unittest.TestCase):
    """What's looked at first is told first: the end of the block, the end of the log, the sum, the type."""

    def test_over_the_blocks_end_in_a_log_that_is_cut(self):
        for length in (32762, 40000, 65535):
            log = piece(1, b"", length=length)
            self.assertEqual(read(0, log), [-4])
            self.assertEqual(read(0, log + noise(100)), [-4])
        self.assertEqual(read(0, piece(1, b"", length=32761)), [-3])
        self.assertEqual(read(0, piece(1, b"", length=32761) + noise(32760)), [-3])
        self.assertEqual(read(0, piece(1, b"", length=32761) + noise(32761)), [-4])
        self.assertEqual(read(0, piece(1, b"", length=65535)[:6]), [-3])
        self.assertEqual(read(BLOCK - 20, bytes(BLOCK - 20) + piece(1, b"", length=14)), [-4])
        self.assertEqual(read(BLOCK - 20, bytes(BLOCK - 20) + piece(1, b"", length=13)), [-3])

    def test_cut_piece_with_a_wrong_sum_or_type(self):
        self.assertEqual(read(0, piece(1, b"abc", 1)[:-1]), [-3])
        self.assertEqual(read(0, piece(5, b"abc")[:-1]), [-3])
        self.assertEqual(read(0, piece(3, b"abc", 1)[:-1]), [-3])
        self.assertEqual(read(0, piece(2, b"abc") + piece(2, b"abc", 1)[:-1]), [-3])
        self.assertEqual(read(0, bytes(6)), [-3])

    def test_wrong_sum_and_type(self):
        self.assertEqual(read(0, piece(5, b"abc", 1)), [-4])
        self.assertEqual(read(0, piece(2, b"abc") + piece(1, b"abc", 1)), [-4])

    def test_an_earlier_piece_first(self):
        self.assertEqual(read(0, piece(2, b"abc", 1)), [-4])
        self.assertEqual(read(0, piece(3, b"abc")), [-4])
        self.assertEqual(read(0, piece(2, b"abc", 1) + piece(4, b"d")[:-1]), [-4])
        self.assertEqual(read(0, piece(2, b"abc") + piece(4, b"d")[:-1]), [-3])

    def test_before_too_long(self):
        for most in (0, 2):
            self.assertEqual(read(0, piece(1, b"abc"), most), [-7])
            self.assertEqual(read(0, piece(1, b"abc")[:-1], most), [-3])
            self.assertEqual(read(0, piece(1, b"abc", 1), most), [-4])
            self.assertEqual(read(0, piece(2, b"abc"), most), [-3])
            self.assertEqual(read(0, piece(2, b"abc") + piece(4, b"d", 1), most), [-4])
            self.assertEqual(read(0, piece(2, b"abc") + piece(1, b"d"), most), [-4])


class TooLongTest(unittest.TestCase):
    def test_just_as_long(self):
        for length in (1, 2, 100, 32761, 32762, 70000):
            content = noise(length)
            log = written(0, content)
            self.assertEqual(read(0, log, length), answer(content, len(log)))
            self.assertEqual(read(0, log, length + 1), answer(content, len(log)))
            self.assertEqual(read(0, log, length - 1), [-7])
            self.assertEqual(read(0, log, 0), [-7])

    def test_place_does_not_count(self):
        log = bytes(1000) + written(1000, b"abc")
        self.assertEqual(read(1000, log, 3), answer(b"abc", 1010))


class ManyPiecesTest(unittest.TestCase):
    def test_of_no_bytes(self):
        middle = piece(3, b"")
        log = piece(2, b"")
        while len(log) < 99900:
            left = BLOCK - len(log) % BLOCK
            log += middle if left >= 7 else bytes(left)
        self.assertEqual(read(0, log), [-3])
        log += piece(4, b"x")
        self.assertLessEqual(len(log), 100000)
        self.assertEqual(read(0, log), answer(b"x", len(log)))


if __name__ == "__main__":
    unittest.main()
