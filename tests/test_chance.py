"""Tables by chance: the calls answer as a second reader of the document does."""
import unittest

from keylogs import desk
from tests.chance import keys_by, table_by
from tests.helper import row
from tests.strict import strict

TOTAL = 1500


class ChanceTest(unittest.TestCase):
    def test_both_kinds_are_there(self):
        right = sum(strict(table_by(seed)) is not None for seed in range(300))
        self.assertTrue(100 < right < 250, right)

    def test_count(self):
        for seed in range(TOTAL):
            table = table_by(seed)
            read = strict(table)
            with self.subTest(seed=seed):
                self.assertEqual(desk.count(table), [-3 if read is None else len(read.entries())])

    def test_get(self):
        for seed in range(TOTAL // 5):
            table = table_by(seed)
            read = strict(table)
            for key in keys_by(seed, read):
                with self.subTest(seed=seed, key=key):
                    self.assertEqual(desk.get(8, table, list(key)), self.wanted(read, key))

    def wanted(self, read, key):
        if read is None:
            return [-3]
        value = dict(read.entries()).get(key)
        if value is None:
            return [-5]
        return [-7] if len(value) > 8 else [len(value)] + list(value)

    def test_at(self):
        for seed in range(TOTAL // 5):
            table = table_by(seed)
            read = strict(table)
            for i in range(14):
                with self.subTest(seed=seed, i=i):
                    self.assertEqual(desk.at(i, 20, table), self.wanted_row(read, i))

    def wanted_row(self, read, i):
        if read is None:
            return [-3]
        entries = read.entries()
        if i >= len(entries):
            return [-5]
        wanted = row(*entries[i])
        return [-7] if len(wanted) > 20 else [len(wanted)] + wanted

    def test_may(self):
        said = []
        for seed in range(TOTAL // 5):
            table = table_by(seed)
            read = strict(table)
            for key in keys_by(seed, read):
                with self.subTest(seed=seed, key=key):
                    given = desk.may(table, list(key))
                    self.assertEqual(given, [-3] if read is None else [read.may(key)])
                    said.extend(given)
        self.assertEqual(sorted(set(said)), [-3, 0, 1])


if __name__ == "__main__":
    unittest.main()
