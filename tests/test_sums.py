"""The sum of a block at a place."""

import unittest

from stretchcache.sums import Sums
from tests.lines import sum_at


class Sum(unittest.TestCase):
    def test_check_value_of_this_crc(self):
        self.assertEqual(Sums().over(list(b"123456789")), 0x995DC9BBDF1939FA)

    def test_bit_by_bit(self):
        sums = Sums()
        for place in (0, 1, 255, 256, 524279, 2 ** 64 - 1):
            for block in ([], [1], [0, 0, 7], [255] * 1024, list(range(256))):
                self.assertEqual(sums.at_place(place, block), sum_at(place, block))


if __name__ == "__main__":
    unittest.main()
