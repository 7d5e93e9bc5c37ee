"""Promise 6: the sum of a block at a place."""

import unittest

from stretchcache.sums import Sums
from tests.lines import (ALL, FAIL, OFF, begin, devices, read, run, sum_at, sync, tell, total, write)


class Sum(unittest.TestCase):
    def test_check_value_of_this_crc(self):
        self.assertEqual(Sums().over(list(b"123456789")), 0x995DC9BBDF1939FA)

    def test_bit_by_bit(self):
        sums = Sums()
        for place in (0, 1, 255, 256, 524279, 2 ** 64 - 1):
            for block in ([], [1], [0, 0, 7], [255] * 1024, list(range(256))):
                self.assertEqual(sums.at_place(place, block), sum_at(place, block))


class Call(unittest.TestCase):
    def totals(self, *pairs):
        return run(devices(), *[total(place, data) for place, data in pairs])

    def test_known_sums(self):
        told = self.totals((0, []), (1, [1, 2, 3]), (7, [7, 9]), (256, [0] * 1023 + [1]), (ALL, [255] * 1024))
        self.assertEqual(told, [[0, 622622085048037531], [0, 15446881869679657348], [0, 14457641077658926866],
                                [0, 14117713714181335948], [0, 296422306827909676]])

    def test_how_many_bytes(self):
        self.assertEqual(self.totals((3, [5] * 1024)), [[0, sum_at(3, [5] * 1024)]])
        self.assertEqual(self.totals((3, [5] * 1025), (3, [0] * 1025), (3, [1] + [0] * 1999)), [[-1]] * 3)

    def test_what_is_a_byte(self):
        self.assertEqual(self.totals((3, [255])), [[0, sum_at(3, [255])]])
        self.assertEqual(self.totals((3, [256]), (3, [1, ALL, 1]), (3, [0] * 1023 + [256])), [[-1]] * 3)

    def test_place_alone_is_no_cause_of_a_refusal(self):
        for place in (0, 7, 8, 65528 * 8, 2 ** 32, 2 ** 63, ALL):
            for calls in ((), (begin(16, [0]),)):
                told = run(devices(), *calls, total(place, [1]), total(place, [256]))
                self.assertEqual(told[-2:], [[0, sum_at(place, [1])], [-1]])

    def test_zeros_at_the_end(self):
        told = self.totals((3, [1, 2]), (3, [1, 2, 0]), (3, [1, 2] + [0] * 1022))
        self.assertEqual(told, [[0, sum_at(3, [1, 2])]] * 3)
        self.assertEqual(self.totals((3, [0]), (3, [0] * 1024)), [[0, sum_at(3, [])]] * 2)

    def test_zeros_ahead(self):
        told = self.totals((3, [0, 1]), (3, [1]))
        self.assertEqual(told, [[0, sum_at(3, [0, 1])], [0, sum_at(3, [1])]])
        self.assertNotEqual(told[0], told[1])

    def test_sum_is_of_the_place_too(self):
        told = self.totals((3, [1]), (4, [1]), (3 + 2 ** 56, [1]))
        self.assertEqual(len({answer[1] for answer in told}), 3)

    def test_without_a_cache_and_with_one(self):
        told = run(devices([0, OFF, 0, 0]), total(3, [1]), begin(16, [0]), total(3, [1]), write(3, [2]), total(3, [1]),
                   sync(), total(3, [1]), total(3, [256]))
        expected = [0, sum_at(3, [1])]
        self.assertEqual(told, [expected, [8], expected, [0], expected, [-100], expected, [-1]])

    def test_in_a_cache_that_has_failed(self):
        told = run(devices([0, FAIL], [1, FAIL]), begin(16, [0]), write(3, [2]), sync(), total(3, [1]))
        self.assertEqual(told[2:], [[-5], [0, sum_at(3, [1])]])

    def test_nothing_is_kept_of_it_and_nobody_is_asked(self):
        told = run(devices([0, OFF, 0, 0]), begin(16, [0]), total(3, [1]), tell(), read(3, []))
        self.assertEqual(told[2:], [[0], [-100]])

    def test_it_is_the_one_that_read_wants(self):
        first = run(devices(), total(3, [9, 8]))[0][1]
        told = run(devices(), begin(16, [0]), write(3, [9, 8]), [1, 2, 3, first, 0])
        self.assertEqual(told[-1], [2, 9, 8])


if __name__ == "__main__":
    unittest.main()
