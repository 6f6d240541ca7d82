"""Promise 2: tables byte by byte, as LevelDB 1.23 writes them."""
import hashlib
import unittest

from keylogs.desk import make
from tests.helper import noise, rows_of

EMPTY_BLOCK = "00000000 01000000 00c0f2a1b0"
FILTER_KEY = "66696c7465722e6c6576656c64622e4275696c74696e426c6f6f6d46696c74657232"
MAGIC = "57fb808b247547db"


def end(handles):
    """The last 48 bytes, by the two handles in hex."""
    return handles.replace(" ", "").ljust(80, "0") + MAGIC


class WrittenOutTest(unittest.TestCase):
    def made(self, interval, block, bits, entries, parts):
        expected = list(bytes.fromhex("".join(parts).replace(" ", "")))
        answer = make(interval, block, bits, 16777216, rows_of(entries))
        self.assertEqual(answer, [len(expected)] + expected)

    def test_no_rows(self):
        for interval, block in ((1, 64), (16, 4096), (64, 65536)):
            self.made(interval, block, 0, [], [EMPTY_BLOCK, EMPTY_BLOCK, end("0008 0d08")])

    def test_no_rows_with_a_filter(self):
        for bits in (1, 10, 20):
            self.made(16, 4096, bits, [], [
                "00000000 0b 008ae8dad1",
                "002202", FILTER_KEY, "0005", "00000000 01000000 0065e85da8",
                EMPTY_BLOCK,
                end("0a2f 3e08"),
            ])

    def test_one_row(self):
        for interval in (1, 2, 64):
            self.made(interval, 64, 0, [(b"a", b"b")], [
                "000101 61 62", "00000000 01000000 00b62ce04b",
                EMPTY_BLOCK,
                "000102 62 000d", "00000000 01000000 006c73b0a8",
                end("1208 1f0e"),
            ])

    def test_empty_key_empty_values_keys_that_begin_with_one_another(self):
        self.made(2, 4096, 0, [(key, b"") for key in (b"", b"a", b"ab", b"abc", b"b")], [
            "000000", "000100 61", "000200 6162", "020100 63", "000100 62",
            "00000000 07000000 10000000 03000000 002c8d2731",
            EMPTY_BLOCK,
            "000102 63 0024", "00000000 01000000 0039b70bdd",
            end("2908 360e"),
        ])

    def test_three_rows_with_a_filter(self):
        self.made(16, 4096, 10, [(b"apple", b"red"), (b"apricot", b"orange"), (b"banana", b"yellow")], [
            "000503", b"applered".hex(), "020506", b"ricotorange".hex(), "000606", b"bananayellow".hex(),
            "00000000 01000000 00aac25a49",
            "4245000ca002d00f 06", "00000000 09000000 0b 0006536a94",
            "002202", FILTER_KEY, "3512", "00000000 01000000 00874a6c56",
            "000102 63 0030", "00000000 01000000 00a87c4220",
            end("4c2f 80010e"),
        ])

    def test_three_blocks_with_a_filter_of_one_bit(self):
        entries = [(b"kiwi", b"g" * 60), (b"lime", b""), (b"mango", b"y" * 49), (b"\xff\xff", b"end")]
        self.made(16, 64, 1, entries, [
            "00043c", b"kiwi".hex(), "67" * 60, "00000000 01000000 006e2255dd",
            "000400", b"lime".hex(), "000531", b"mango".hex(), "79" * 49, "00000000 01000000 00c4f7b18b",
            "000203 ffff", b"end".hex(), "00000000 01000000 0038528560",
            "04a0020000000000 01", "00000000 09000000 0b 00ff0cfda3",
            "002203", FILTER_KEY, "b20112", "00000000 01000000 00f6a681d1",
            "000402", b"kiwi".hex(), "004b", "000102 6e 5048", "000203 ffff 9d0110",
            "00000000 09000000 0f000000 03000000 0062575b07",
            end("c90130 fe0127"),
        ])


def counted(count, step, size):
    """Keys of eight digits, each with so many bytes."""
    return [(b"%08d" % (i * step), noise(size, i + 1)) for i in range(count)]


def mixed(count, seed, key_size, value_size):
    """Keys and values of all lengths up to these, of all bytes."""
    entries = {}
    for i in range(count):
        lengths = noise(4, seed + i)
        key = noise(int.from_bytes(lengths[:2], "little") % (key_size + 1), seed + 7 * i)
        entries[key] = noise(int.from_bytes(lengths[2:], "little") % (value_size + 1), seed + 3 * i)
    return sorted(entries.items())


def thick(count, alphabet, prefix):
    """Keys of few byte values that have much in common."""
    keys = {prefix}
    for i in range(count):
        keys.add(prefix + bytes(alphabet[byte % len(alphabet)] for byte in noise(i % 13, i + 9)))
    return [(key, bytes(len(key) % 5)) for key in sorted(keys)]


# interval, block, bits, whence the entries come; how long LevelDB's table is, and the SHA-256 of it
GOLDEN = [
    (1, 64, 0, counted, (1, 1, 0), 104,
     "67137188081aadbeb67a10192406fd5e844a5d729612e81a85023e52d4e84ff0"),
    (1, 64, 20, counted, (1, 1, 0), 166,
     "488c6d371d83d54bbcf942081a0107f12d171f09ffc066c8e175943433e7e27b"),
    (2, 64, 1, counted, (9, 3, 10), 399,
     "8209395c47516801038683dce808a4b432cce242138daa20412f856126d0447d"),
    (3, 100, 2, counted, (50, 7, 5), 1062,
     "ab7bf1f7f6e80a0b71d32996cb5741eb6a10ede12c9ab443600a734761d926e5"),
    (16, 4096, 10, counted, (3000, 11, 4), 33421,
     "90d8b020e78bc0bf61a82590d6ba0df5089e27001af4f6996229edf3c84a5e07"),
    (64, 65536, 3, counted, (2500, 1, 20), 61905,
     "57c46a6b3b51ec9714af35a3c182f9f8313ad0157f6145055871b2a10030543e"),
    (16, 1024, 7, counted, (400, 99999, 200), 87523,
     "eb956f31f68c1180c5a24a2fe748b0734f115d8d5ea6dd5937aedc6d54b8ab1c"),
    (5, 256, 0, counted, (40, 1, 2043), 83574,
     "74e14666a7e7582ae491ca1fc631fa0ae76369901b8fd43bc1a1ebae4aae711c"),
    (16, 4096, 12, counted, (9, 1, 10000), 90774,
     "7e1e72297011127ef4dad316496e83646faaea52e8930360598b8bc3f9c467b2"),
    (64, 64, 20, counted, (7000, 1, 0), 68885,
     "3a76371f9e7e227297adfeac72325240120b6e913ef2bae232daa36cef0382e8"),
    (1, 64, 5, mixed, (60, 5, 3, 3), 804,
     "e8cb4584aa7d7d011ed625e81a04965a402fdb50f299fcbe77fcabac7d0c70be"),
    (2, 300, 6, mixed, (300, 17, 40, 100), 25526,
     "aea71857a59c158b1019083d83844ece77b96aea326b8543fd7853de1005441a"),
    (4, 2048, 9, mixed, (200, 400, 9, 900), 85015,
     "fb68f6b4eabcd28aec68afa95aa3b035403fa5f9f9b24f046f3573071d9df6a5"),
    (16, 4096, 10, mixed, (16, 77, 5000, 5000), 82496,
     "c3183b9827e9d3f5a597bc357affc8942b0bcaa051d669cdc0e3f313c5db8faf"),
    (7, 2043, 4, mixed, (120, 3, 400, 300), 43964,
     "2e7b374bde2170989e999ca32b9a36a8e7483dbc28bc7b88701fd74f58d289d9"),
    (16, 65536, 16, mixed, (500, 21, 2, 150), 28403,
     "b925e92633e5cdf219587e219502e2878bd2064e38337be0fa608749a6825202"),
    (63, 512, 8, mixed, (900, 8, 70, 20), 46125,
     "ccf267dacfa21f073465dd066b784f8257438d9db275108ab93ef8f475f8c491"),
    (16, 4096, 0, mixed, (300, 55, 100, 200), 47093,
     "68fe3860b3027433af45044ac967943b96a9225896090c5dcde05cf98d9f5bad"),
    (1, 64, 11, thick, (200, (0, 255), b""), 3345,
     "d8057b7c18b3699bc9e44e426ecfb6ffc9480a97fd891afba84c029e36ab9462"),
    (2, 64, 13, thick, (400, (254, 255), b"\xff" * 9), 7399,
     "178f1c74e0ed1829ba34357d0c6dcc2d60dc3eb33b196e611debbaae705ce165"),
    (16, 200, 14, thick, (600, (0, 1, 2), b""), 5341,
     "0460998f4f8ce9953006ae81593e090924177ec641e3d81f251d54c22aa1ddd2"),
    (64, 4096, 15, thick, (500, (255,), b""), 257,
     "f1c4e17f506115a85ca8b4868e9add7b0115b4e3b6e2aedbd5e491478a916444"),
    (10, 777, 17, thick, (300, (97, 98), b"x" * 130), 6141,
     "1067b684cfe3d3d4f2f3796a395636dc12f71822e1eb64ba6a39d7f1a563b4c5"),
    (1, 64, 18, thick, (300, (127, 128, 129), b""), 5815,
     "a06b8fd07f7aeebffbe5bb347ee3e3bbe808529115778b5e938dadec207c367a"),
    (16, 64, 19, thick, (50, (0,), b""), 292,
     "fecf11cb416eb8227370657fe24bfe35e68d5674c330d214ffedceb9636c4250"),
    (8, 128, 20, thick, (250, (0, 128, 255), b"\x80" * 3), 3022,
     "6946ecb9e41210c8f1505dab9c46c0b6aaee780d0b8a604b02a5091725fe42a6"),
]


class GoldenTest(unittest.TestCase):
    def test_tables(self):
        for interval, block, bits, maker, arguments, length, digest in GOLDEN:
            with self.subTest(interval=interval, block=block, bits=bits, maker=maker.__name__, arguments=arguments):
                rows = rows_of(maker(*arguments))
                answer = make(interval, block, bits, 16777216, rows)
                self.assertEqual(answer[0], length)
                self.assertEqual(hashlib.sha256(bytes(answer[1:])).hexdigest(), digest)


if __name__ == "__main__":
    unittest.main()
