"""Promise 7: write."""
import unittest

from keylogs import desk
from tests.helper import log_piece as piece, noise

LONGEST = 16777216
BLOCK = 32768


def write(place, content, most=LONGEST):
    return desk.write(place, most, list(content))


class WriteTest(unittest.TestCase):
    def written(self, place, content, wanted):
        """Wanted are the bytes, at every place that's at the same place in a later block too."""
        answer = [len(wanted)] + list(wanted)
        for begin in (place, place + BLOCK, place + 1000 * BLOCK, place + 65000 * BLOCK):
            self.assertEqual(write(begin, content), answer)
        self.assertEqual(write(place, content, len(wanted)), answer)
        self.assertEqual(write(place, content, len(wanted) + 1), answer)
        self.assertEqual(write(place, content, len(wanted) - 1), [-7])


class RangeTest(unittest.TestCase):
    def test_place(self):
        self.assertEqual(write(-1, b"a"), [-2])
        self.assertEqual(write(-2147483648, b"a"), [-2])
        for place in (0, 1, 2147483647):
            self.assertGreater(write(place, b"a")[0], 0)

    def test_most(self):
        for most in (-1, LONGEST + 1, -2147483648, 2147483647):
            for place in (-1, 0, 1):
                self.assertEqual(write(place, b"a", most), [-2])
        self.assertEqual(write(0, b"a", LONGEST)[0], 8)
        for most in (0, 1, 7):
            self.assertEqual(write(0, b"a", most), [-7])
        self.assertEqual(write(0, b"a", 8)[0], 8)
        self.assertEqual(write(0, b"", 0), [-7])
        self.assertEqual(write(-1, b"", 0), [-2])


class WrittenOutTest(unittest.TestCase):
    """As LevelDB 1.23 writes them."""

    def written(self, place, content, wanted):
        wanted = list(bytes.fromhex(wanted))
        self.assertEqual(write(place, content), [len(wanted)] + wanted)

    def test_small_ones(self):
        self.written(0, b"", "052b2843 0000 01")
        self.written(0, b"a", "b5cd0ba2 0100 01 61")
        self.written(0, b"hello", "0bb95758 0500 01 68656c6c6f")
        self.written(5, b"\0\xff", "88bb2d67 0200 01 00ff")

    def test_at_a_blocks_end(self):
        self.written(32760, b"ab", "ea753d51 0100 02 61" "0569b98d 0100 04 62")
        self.written(32761, b"a", "6451d0e9 0000 02" "644361af 0100 04 61")
        self.written(32763, b"ab", "0000000000" "a4984482 0200 01 6162")


class PiecesTest(WriteTest):
    def test_whole(self):
        for length in (0, 1, 2, 100, 1000, 32760, 32761):
            content = noise(length)
            self.written(0, content, piece(1, content))
        for place in (1, 7, 500, 32000):
            self.written(place, noise(50), piece(1, noise(50)))

    def test_ends_at_the_blocks_end(self):
        for place in (0, 1, 100, 32000, 32760, 32761):
            room = BLOCK - place - 7
            for length in (room - 1, room):
                if length >= 0:
                    self.written(place, noise(length), piece(1, noise(length)))
            content = noise(room + 1)
            self.written(place, content, piece(2, content[:room]) + piece(4, content[room:]))

    def test_few_bytes_left(self):
        content = noise(20)
        for left in range(7):
            place = BLOCK - left if left > 0 else 0
            self.written(place, content, bytes(left) + piece(1, content))
            self.written(place, b"", bytes(left) + piece(1, b""))
        self.written(BLOCK - 7, content, piece(2, b"") + piece(4, content))
        self.written(BLOCK - 7, b"", piece(1, b""))
        self.written(BLOCK - 8, content, piece(2, content[:1]) + piece(4, content[1:]))
        self.written(BLOCK - 8, b"", piece(1, b""))
        self.written(BLOCK - 8, b"a", piece(1, b"a"))
        self.written(BLOCK - 8, b"ab", piece(2, b"a") + piece(4, b"b"))

    def test_two_blocks(self):
        content = noise(40000)
        self.written(0, content, piece(2, content[:32761]) + piece(4, content[32761:]))
        self.written(32700, content, piece(2, content[:61]) + piece(3, content[61:32822]) + piece(4, content[32822:]))

    def test_three_and_four_blocks(self):
        content = noise(98283)
        parts = [content[:32761], content[32761:65522], content[65522:98283]]
        self.written(0, content, piece(2, parts[0]) + piece(3, parts[1]) + piece(4, parts[2]))
        content = noise(98284)
        wanted = piece(2, parts[0]) + piece(3, parts[1]) + piece(3, parts[2]) + piece(4, content[98283:])
        self.written(0, content, wanted)
        self.written(BLOCK - 3, content, bytes(3) + wanted)
        content = noise(100000)
        shifted = [content[:0], content[:32761], content[32761:65522], content[65522:98283], content[98283:]]
        self.written(BLOCK - 7, content, piece(2, b"") + b"".join(piece(3, part) for part in shifted[1:4])
                     + piece(4, shifted[4]))

    def test_last_piece_fills_its_block(self):
        for blocks in (2, 3):
            content = noise(32761 * blocks)
            parts = [content[32761 * i:32761 * (i + 1)] for i in range(blocks)]
            wanted = piece(2, parts[0]) + b"".join(piece(3, part) for part in parts[1:-1]) + piece(4, parts[-1])
            self.written(0, content, wanted)

    def test_place_as_high_as_may_be(self):
        # 2147483647 is a block's last byte.
        content = noise(9)
        self.assertEqual(write(2147483647, content), [17] + list(b"\0" + piece(1, content)))
        self.assertEqual(write(2147483640, content), [23] + list(piece(2, content[:1]) + piece(4, content[1:])))


if __name__ == "__main__":
    unittest.main()
