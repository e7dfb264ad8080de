"""The sum of bytes, by which heads and transactions are known to be whole."""

import unittest

from sparedisk.checksum import sum_of
from tests.lines import block, crc


class SumTest(unittest.TestCase):
    def test_known_sums(self):
        self.assertEqual(sum_of([]), 0)
        self.assertEqual(sum_of(list(b"123456789")), 0xE3069283)
        self.assertEqual(sum_of([0] * 32), 0x8A9136AA)
        self.assertEqual(sum_of([255] * 32), 0x62A8AB43)

    def test_each_byte(self):
        for byte in range(256):
            self.assertEqual(sum_of([byte]), crc([byte]))

    def test_blocks(self):
        for seed in range(0, 250, 50):
            self.assertEqual(sum_of(block(seed)), crc(block(seed)))


if __name__ == "__main__":
    unittest.main()
