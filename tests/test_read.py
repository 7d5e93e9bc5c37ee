"""Promise 2: read."""

import unittest

from stretchcache.pool import BEING_FILLED, GOOD, OUT
from tests.lines import (ALL, FAIL, GOES, OFF, ROT, SICK, Watched, begin, devices, found, marked, read, read_sum, run,
                         state, sum_at, sync, write, writes)


class Kept(unittest.TestCase):
    def test_dirty_block(self):
        line = Watched()
        line.ask(begin(16, [0]), write(2, [1, 2]))
        self.assertEqual(line.ask(read(2, [1, 2]), read(2, [1]), read(2, [])), [found([1, 2]), [-2], [-2]])
        self.assertEqual(line.asks(), [])
        self.assertEqual(line.dirty_keys(), [(0, 2)])

    def test_bytes_are_told_without_the_zeros_at_the_end(self):
        told = run(devices(), begin(16, [0]), write(2, [1, 0, 0]), read(2, [1]), write(3, [0] * 1024), read(3, []),
                   write(4, [3] * 1024), read(4, [3] * 1024), write(5, [0, 0, 1]), read(5, [0, 0, 1]))
        self.assertEqual(told[2::2], [found([1]), found([]), found([3] * 1024), found([0, 0, 1])])

    def test_sum_is_of_the_place_too(self):
        told = run(devices(), begin(16, [0]), write(2, [1]), read_sum(2, sum_at(3, [1])), read_sum(2, 0))
        self.assertEqual(told[2:], [[-2], [-2]])

    def test_dirty_block_of_the_latest_stretch(self):
        line = Watched()
        line.ask(begin(16, [0]), write(2, [1]), [3, 0, 0], write(3, [3]), write(2, [2]))
        self.assertEqual(line.ask(read(2, [1]), read(2, [2]), read(3, [3])), [[-2], found([2]), found([3])])
        self.assertEqual(line.asks(), [])

    def test_clean_block_is_the_last_of_the_clean_ones_then(self):
        line = Watched()
        line.ask(begin(16, [0]), *writes([1, 2, 3]), sync())
        line.asks()
        self.assertEqual(line.ask(read(1, marked(1))), [found(marked(1))])
        self.assertEqual(line.clean_places(), [2, 3, 1])
        self.assertEqual(line.asks(), [])

    def test_clean_block_with_another_sum(self):
        line = Watched()
        line.ask(begin(16, [0]), *writes([1, 2, 3]), sync())
        line.asks()
        self.assertEqual(line.ask(read(1, []), read(2, marked(1))), [[-2], [-2]])
        self.assertEqual(line.clean_places(), [1, 2, 3])
        self.assertEqual(line.asks(), [])


class FromThePool(unittest.TestCase):
    def filled(self, *script):
        """A line whose devices 0, 1 and 2 have place 3, with nothing kept; the asks 0 to 5 are behind it."""
        line = Watched(*script)
        told = line.ask(begin(16, [0, 1, 2]), write(3, [7]), sync(), begin(16, [0, 1, 2]))
        self.assertEqual(told, [[8], [0], [0], [8]])
        self.assertEqual(len(line.asks()), 6)
        return line

    def test_first_device_alone_is_asked_when_it_has_the_sum(self):
        line = self.filled()
        self.assertEqual(line.ask(read(3, [7]), read(3, [7])), [found([7])] * 2)
        self.assertEqual(line.asks(), [("read", 0, 11)])
        self.assertEqual(line.clean_places(), [3])

    def test_place_in_a_row_of_mirrors(self):
        line = Watched()
        line.ask(begin(16, [4], [2, 5], [0]), *[read(place, []) for place in (0, 1, 2, 3, 7, 23)])
        self.assertEqual(line.asks(), [("read", 4, 8), ("read", 2, 8), ("read", 0, 8), ("read", 4, 9), ("read", 2, 10),
                                       ("read", 0, 15)])

    def test_device_that_fails_is_put_the_block(self):
        for entry in ([6, FAIL], [6, SICK, 11]):
            line = self.filled(entry)
            self.assertEqual(line.ask(read(3, [7])), [found([7])])
            self.assertEqual(line.asks(), [("read", 0, 11), ("read", 1, 11), ("write", 0, 11, [7])])
            self.assertEqual(line.ask(begin(16, [0]), read(3, [7])), [[8], found([7])])

    def test_devices_without_the_sum_are_put_the_block_in_order(self):
        line = self.filled([6, ROT, 11, 0, 8], [7, ROT, 11, 1023, 1])
        self.assertEqual(line.ask(read(3, [7])), [found([7])])
        self.assertEqual(line.asks(), [("read", 0, 11), ("read", 1, 11), ("read", 2, 11), ("write", 0, 11, [7]),
                                       ("write", 1, 11, [7])])
        self.assertEqual(line.ask(begin(16, [0]), read(3, [7]), begin(16, [1]), read(3, [7]))[1::2], [found([7])] * 2)

    def test_device_that_fails_a_read_is_not_out(self):
        line = self.filled([6, FAIL])
        line.ask(read(3, [7]))
        self.assertEqual([line.state(number) for number in range(3)], [GOOD] * 3)

    def test_put_is_tried_twice(self):
        line = self.filled([6, FAIL], [8, FAIL])
        self.assertEqual(line.ask(read(3, [7])), [found([7])])
        self.assertEqual(line.asks()[2:], [("write", 0, 11, [7])] * 2)
        self.assertEqual(line.state(0), GOOD)

    def test_device_that_fails_two_puts_is_out(self):
        line = self.filled([6, GOES])
        self.assertEqual(line.ask(read(3, [7]), read(2, [])), [found([7]), found([])])
        self.assertEqual(line.asks(), [("read", 0, 11), ("read", 1, 11), ("write", 0, 11, [7]), ("write", 0, 11, [7]),
                                       ("read", 1, 10)])
        self.assertEqual(line.state(0), OUT)

    def test_device_that_is_being_filled_is_not_read(self):
        line = self.filled()
        line.ask(state(0, BEING_FILLED))
        line.ask(read(3, [7]), read(2, [1]))
        self.assertEqual(line.asks(), [("read", 1, 11), ("read", 1, 10), ("read", 2, 10)])

    def test_none_has_it(self):
        line = self.filled()
        self.assertEqual(line.ask(read(3, [8]), read(3, [7])), [[-2], found([7])])
        self.assertEqual(line.asks(), [("read", 0, 11), ("read", 1, 11), ("read", 2, 11), ("read", 0, 11)])

    def test_none_has_it_and_nothing_is_kept(self):
        line = self.filled()
        line.ask(read(3, [8]))
        self.assertEqual(line.clean_places(), [])

    def test_all_fail(self):
        line = self.filled([6, FAIL], [7, FAIL], [8, FAIL])
        self.assertEqual(line.ask(read(3, [7])), [[-2]])
        self.assertEqual(len(line.asks()), 3)

    def test_blocks_that_the_devices_have_not(self):
        line = Watched(sizes=[9, 16, 8, 0, 16, 16, 16, 16])
        self.assertEqual(line.ask(begin(16, [0], [2, 1]), read(0, []), read(2, []), read(3, [])),
                         [[16], found([]), [-2], found([])])
        self.assertEqual(line.asks(), [("read", 0, 8), ("read", 0, 9), ("read", 2, 9), ("read", 1, 9),
                                       ("write", 2, 9, []), ("write", 2, 9, [])])

    def test_place_that_there_is_not(self):
        line = Watched()
        self.assertEqual(line.ask(begin(16, [0], [1]), read(15, []), read(16, []), read(ALL, [])),
                         [[16], found([]), [-2], [-2]])
        self.assertEqual(line.asks(), [("read", 1, 15)])

    def test_power_goes_at_a_read_and_at_a_put(self):
        for script in ([[6, OFF, 0, 0]], [[6, FAIL], [8, OFF, 0, 0]]):
            line = self.filled(*script)
            self.assertEqual(line.ask(read(3, [7]), read(3, [7]), begin(16, [0]), read(3, [7])),
                             [[-100], [-9], [8], found([7])])


class WhatIsKeptOfIt(unittest.TestCase):
    def test_sixty_fourth_is_kept_beside_the_others(self):
        line = Watched()
        line.ask(begin(128, [0]), *writes(range(63)), read(70, []))
        self.assertEqual(line.clean_places(), [70])

    def test_in_the_place_of_the_first_clean_one(self):
        line = Watched()
        line.ask(begin(128, [0]), *writes(range(3)), sync(), *writes(range(10, 71)))
        self.assertEqual(line.clean_places(), [0, 1, 2])
        self.assertEqual(line.ask(read(100, [])), [found([])])
        self.assertEqual(line.clean_places(), [1, 2, 100])
        line.asks()
        self.assertEqual(line.ask(read(0, marked(0)), read(1, marked(1))), [found(marked(0)), found(marked(1))])
        self.assertEqual(line.asks(), [("read", 0, 8), ("read", 0, 9)])
        self.assertEqual(line.clean_places(), [100, 0, 1])

    def test_not_kept_without_a_clean_one(self):
        line = Watched()
        line.ask(begin(128, [0]), *writes(range(64)))
        self.assertEqual(line.ask(read(100, []), read(100, [])), [found([]), found([])])
        self.assertEqual(line.asks(), [("read", 0, 108)] * 2)
        self.assertEqual(line.clean_places(), [])
        self.assertEqual(len(line.dirty_keys()), 64)

    def test_sixty_four_clean_ones(self):
        line = Watched()
        line.ask(begin(128, [0]), *[read(place, []) for place in range(65)])
        self.assertEqual(line.clean_places(), list(range(1, 65)))


if __name__ == "__main__":
    unittest.main()
