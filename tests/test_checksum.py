"""Promise 15 (sum): the sum of bytes, by which heads and transactions are known to be whole."""

import unittest

from sparedisk.checksum import sum_of
from tests.lines import Case, block, crc, cut, joined, make, read, run, sum_call


class SumTest(Case):
    def test_known_sums(self):
        self.assertEqual(sum_of([]), 0)
        self.assertEqual(sum_of(list(b"123456789")), 0xE3069283)
        self.assertEqual(sum_of([0] * 32), 0x8A9136AA)
        self.assertEqual(sum_of([255] * 32), 0x62A8AB43)

    def test_each_byte(self):
        for byte in range(256):
            self.assertEqual(sum_of([byte]), crc([byte]))

    def test_blocks(self):
        for seed in range(0, 250, 50):
            self.assertEqual(sum_of(block(seed)), crc(block(seed)))


class SumCallTest(Case):
    def check(self, data, total):
        self.assertEqual(run(sum_call(data)), [[total]])
        self.assertEqual(crc(data), total)

    def test_no_byte(self):
        self.check([], 0)

    def test_one_byte(self):
        self.check([0], 0x527D5351)
        self.check([97], 0xC1D04330)
        self.check([255], 0xFF000000)

    def test_the_digits(self):
        self.check(list(b"123456789"), 3808858755)

    def test_sums_of_more_than_31_bits_and_of_all_ones(self):
        self.check([255] * 4, 4294967295)
        self.check([0] * 4, 1214729159)

    def test_the_most_bytes(self):
        data = joined([block(k) for k in range(57)])
        self.assertEqual(len(data), 29184)
        self.assertEqual(run(sum_call(data)), [[crc(data)]])
        self.assertEqual(run(sum_call([255] * 29184)), [[crc([255] * 29184)]])

    def test_it_wants_no_disk_and_changes_none(self):
        digits = sum_call(list(b"123456789"))
        got = run(digits, read(0), make(8, 4), digits, read(0), cut(), digits)
        self.assertEqual([got[k][0] for k in (0, 3, 6)], [3808858755] * 3)
        self.assertEqual([got[k][0] for k in (1, 2, 4, 5)], [-6, 0, 0, 0])


if __name__ == "__main__":
    unittest.main()
