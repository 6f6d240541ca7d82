"""Promise 1: sum_of."""
import unittest

from keylogs.desk import sum_of
from tests.helper import crc32c, noise

DIGITS = list(b"123456789")


class SumTest(unittest.TestCase):
    def test_no_bytes_give_start_back(self):
        for start in (0, 1, 2, 255, 65536, 2147483647, 2147483648, 3808858755, 4294967294, 4294967295):
            self.assertEqual(sum_of(start, []), [start])

    def test_check_value(self):
        self.assertEqual(sum_of(0, DIGITS), [3808858755])

    def test_well_known_sums(self):
        self.assertEqual(sum_of(0, [0] * 32), [0x8A9136AA])
        self.assertEqual(sum_of(0, [255] * 32), [0x62A8AB43])
        self.assertEqual(sum_of(0, list(range(32))), [0x46DD794E])
        self.assertEqual(sum_of(0, list(range(31, -1, -1))), [0x113FDB5C])

    def test_each_byte_alone(self):
        for byte in range(256):
            self.assertEqual(sum_of(0, [byte]), [crc32c([byte])])

    def test_all_byte_values(self):
        self.assertEqual(sum_of(0, list(range(256))), [0x9C44184B])
        self.assertEqual(sum_of(0, list(range(255, -1, -1))), [crc32c(range(255, -1, -1))])

    def test_from_other_starts(self):
        for start in (1, 128, 2147483648, 3808858755, 4294967295):
            self.assertEqual(sum_of(start, DIGITS), [crc32c(DIGITS, start)])

    def test_gone_on_with(self):
        data = list(noise(300))
        whole = sum_of(0, data)
        for cut in (0, 1, 2, 3, 4, 5, 7, 8, 9, 100, 255, 256, 299, 300):
            self.assertEqual(sum_of(sum_of(0, data[:cut])[0], data[cut:]), whole)

    def test_gone_on_with_byte_by_byte(self):
        so_far = 0
        for byte in DIGITS:
            so_far = sum_of(so_far, [byte])[0]
        self.assertEqual(so_far, 3808858755)

    def test_each_length(self):
        data = list(noise(70, 7))
        for length in range(len(data)):
            self.assertEqual(sum_of(0, data[:length]), [crc32c(data[:length])])

    def test_a_hundred_thousand_numbers(self):
        data = list(noise(100000, 3))
        self.assertEqual(sum_of(0, data), [crc32c(data)])
        self.assertEqual(sum_of(4294967295, data), [crc32c(data, 4294967295)])
        self.assertEqual(sum_of(0, [0] * 100000), [crc32c([0] * 100000)])

    def test_more_bytes_than_there_may_be(self):
        self.assertEqual(sum_of(0, [1] * 16777217), [0])
        self.assertEqual(sum_of(12345, [1] * 16777217), [0])


if __name__ == "__main__":
    unittest.main()
