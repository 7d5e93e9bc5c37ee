"""Promise 4: forget."""

import unittest

from tests.lines import (ALL, FAIL, GOES, OFF, Watched, barrier, begin, devices, forget, found, kept, marked, read,
                         run, state, sync, tell, write, writes)


class WhatGoes(unittest.TestCase):
    def test_clean_block(self):
        line = Watched()
        line.ask(begin(16, [0]), *writes([1, 2, 3]), sync())
        line.asks()
        self.assertEqual(line.ask(forget(2), tell()), [[0], kept([1, 3])])
        self.assertEqual(line.asks(), [])
        self.assertEqual(line.ask(read(2, marked(2)), tell()), [found(marked(2)), kept([1, 3, 2])])
        self.assertEqual(line.asks(), [("read", 0, 10)])

    def test_dirty_block(self):
        line = Watched()
        line.ask(begin(16, [0]), *writes([1, 2, 3]))
        self.assertEqual(line.ask(forget(2), tell()), [[0], kept([], (0, 1), (0, 3))])
        self.assertEqual(line.asks(), [])
        self.assertEqual(line.ask(read(2, marked(2)), read(2, []))[:2], [[-2], found([])])
        self.assertEqual(line.asks(), [("read", 0, 10)] * 2)

    def test_dirty_blocks_of_several_stretches(self):
        line = Watched()
        line.ask(begin(16, [0]), *writes([1, 2]), barrier(), *writes([3, 2, 4], 2), barrier(), *writes([2, 5], 3))
        self.assertEqual(line.ask(forget(2), tell()), [[0], kept([], (0, 1), (1, 3), (1, 4), (2, 5))])
        self.assertEqual(line.asks(), [])
        self.assertEqual(line.ask(read(2, marked(2)), read(2, marked(2, 2)), read(2, marked(2, 3))), [[-2]] * 3)

    def test_no_block(self):
        line = Watched()
        line.ask(begin(16, [0]), *writes([1, 2]), sync(), *writes([3, 4]))
        line.asks()
        self.assertEqual(line.ask(forget(5), tell()), [[0], kept([1, 2], (0, 3), (0, 4))])
        self.assertEqual(line.asks(), [])

    def test_empty_cache(self):
        self.assertEqual(run(devices(), begin(16, [0]), forget(0), tell()), [[8], [0], kept([])])

    def test_place_that_there_is_not(self):
        told = run(devices(), begin(16, [0]), *writes([0, 7]), forget(8), forget(ALL), tell())
        self.assertEqual(told[3:], [[0], [0], kept([], (0, 0), (0, 7))])

    def test_place_again(self):
        told = run(devices(), begin(16, [0]), *writes([1, 2]), forget(1), forget(1), tell())
        self.assertEqual(told[3:], [[0], [0], kept([], (0, 2))])

    def test_stretch_number_is_no_place(self):
        told = run(devices(), begin(16, [0]), write(5, [1]), barrier(), write(0, [1]), write(1, [1]), forget(1), tell(),
                   forget(0), tell())
        self.assertEqual(told[5:], [[0], kept([], (0, 5), (1, 0)), [0], kept([], (0, 5))])

    def test_what_is_on_the_devices_stays(self):
        told = run(devices(), begin(16, [0]), write(1, [7]), sync(), write(1, [8]), forget(1), read(1, [8]),
                   read(1, [7]))
        self.assertEqual(told[4:], [[0], [-2], found([7])])


class WhatStays(unittest.TestCase):
    def test_clean_ones_stay_in_their_order(self):
        line = Watched()
        line.ask(begin(16, [0]), *writes([5, 1, 4, 2, 3]), sync(), read(1, marked(1)))
        self.assertEqual(line.ask(tell(), forget(4), tell(), forget(5), tell(), forget(1), tell())[::2],
                         [kept([5, 4, 2, 3, 1]), kept([5, 2, 3, 1]), kept([2, 3, 1]), kept([2, 3])])

    def test_dirty_ones_stay_in_their_order(self):
        line = Watched()
        line.ask(begin(16, [0]), *writes([5, 1, 4]), barrier(), *writes([3, 5, 0]), forget(1), forget(5), tell())
        self.assertEqual(line.ask(tell()), [kept([], (0, 4), (1, 3), (1, 0))])
        self.assertEqual(line.ask(sync(), tell()), [[0], kept([4, 3, 0])])
        self.assertEqual(line.asks(), [("write", 0, 12, marked(4)), ("flush", 0), ("write", 0, 11, marked(3)),
                                       ("write", 0, 8, marked(0)), ("flush", 0)])

    def test_written_again_it_is_the_last(self):
        line = Watched()
        line.ask(begin(16, [0]), *writes([1, 2]), forget(1), write(1, [9]))
        self.assertEqual(line.ask(tell(), read(1, [9])), [kept([], (0, 2), (0, 1)), found([9])])

    def test_read_again_it_is_the_last_clean_one(self):
        told = run(devices(), begin(16, [0]), read(1, []), read(2, []), forget(1), read(1, []), tell())
        self.assertEqual(told[-1], kept([2, 1]))


class Stretches(unittest.TestCase):
    def test_stretch_that_is_now_with_all_forgotten_is_not_ended(self):
        told = run(devices(), begin(16, [0]), *writes([1, 2]), forget(1), barrier(), write(3, [1]), forget(3),
                   forget(2), barrier(), barrier())
        self.assertEqual([told[4], told[8], told[9]], [[1], [1], [1]])

    def test_stretch_0_with_all_forgotten(self):
        told = run(devices(), begin(16, [0]), *writes([1, 2]), forget(1), forget(2), barrier(), tell(), sync())
        self.assertEqual(told[3:], [[0], [0], [0], kept([]), [0]])

    def test_earlier_stretch_with_all_forgotten_is_not_flushed(self):
        line = Watched()
        line.ask(begin(16, [0]), *writes([1, 2]), barrier(), write(3, [1]), forget(1), forget(2))
        self.assertEqual(line.ask(barrier(), sync()), [[2], [0]])
        self.assertEqual(line.asks(), [("write", 0, 11, [1]), ("flush", 0)])

    def test_middle_stretch_with_all_forgotten(self):
        line = Watched()
        line.ask(begin(16, [0]), write(1, [1]), barrier(), write(2, [1]), barrier(), write(3, [1]), forget(2))
        self.assertEqual(line.ask(barrier(), tell(), sync(), tell()),
                         [[3], kept([], (0, 1), (2, 3)), [0], kept([1, 3])])
        self.assertEqual(line.asks(), [("write", 0, 9, [1]), ("flush", 0), ("write", 0, 11, [1]), ("flush", 0)])

    def test_sync_with_all_forgotten_asks_nobody(self):
        line = Watched()
        line.ask(begin(16, [0]), write(1, [1]), barrier(), write(2, [1]), forget(1), forget(2))
        self.assertEqual(line.ask(sync(), barrier()), [[0], [1]])
        self.assertEqual(line.asks(), [])

    def test_it_is_not_written(self):
        told = run(devices(), begin(16, [0]), *writes([1, 2]), forget(1), sync(), begin(16, [0]), read(1, []),
                   read(2, marked(2)))
        self.assertEqual(told[3:], [[0], [0], [8], found([]), found(marked(2))])


class Failed(unittest.TestCase):
    def failed(self):
        """A line whose cache has failed, with 1 clean, and 2 and 3 dirty."""
        line = Watched([2, FAIL], [3, FAIL])
        told = line.ask(begin(16, [0]), write(1, [1]), sync(), *writes([2, 3]), sync())
        self.assertEqual(told, [[8], [0], [0], [0], [0], [-5]])
        line.asks()
        return line

    def test_forgets_too(self):
        line = self.failed()
        self.assertEqual(line.ask(tell(), forget(2), tell(), forget(1), tell()),
                         [kept([1], (0, 2), (0, 3)), [0], kept([1], (0, 3)), [0], kept([], (0, 3))])
        self.assertEqual(line.asks(), [])

    def test_sync_fails_all_the_same(self):
        line = self.failed()
        self.assertEqual(line.ask(forget(2), sync(), tell(), forget(3), tell(), sync(), barrier(), sync()),
                         [[0], [-5], kept([1], (0, 3)), [0], kept([1]), [-5], [0], [-5]])
        self.assertEqual(line.asks(), [])

    def test_sync_and_write_fail_with_a_good_device_too(self):
        line = self.failed()
        self.assertEqual(line.ask(forget(2), forget(3), state(0, 0), sync(), write(4, [1]), tell()),
                         [[0], [0], [0], [-5], [-5], kept([1])])
        self.assertEqual(line.asks(), [])


class Room(unittest.TestCase):
    def test_of_a_dirty_block(self):
        line = Watched()
        line.ask(begin(128, [0]), *writes(range(64)), forget(10))
        self.assertEqual(line.ask(write(100, [1])), [[0]])
        self.assertEqual(line.asks(), [])
        self.assertEqual(len(line.dirty_keys()), 64)
        self.assertEqual(line.ask(write(101, [1])), [[0]])
        self.assertEqual(len(line.asks()), 65)

    def test_of_a_clean_block(self):
        line = Watched()
        line.ask(begin(128, [0]), *[read(place, []) for place in range(64)], forget(10), read(100, []))
        self.assertEqual(line.clean_places(), [place for place in range(64) if place != 10] + [100])

    def test_of_several_stretches(self):
        line = Watched()
        line.ask(begin(128, [0]), *writes(range(32)), barrier(), *writes(range(32)), forget(5))
        line.ask(*writes([100, 101], 7))
        self.assertEqual(line.asks(), [])
        self.assertEqual(len(line.dirty_keys()), 64)
        self.assertEqual(line.dirty_keys()[-2:], [(1, 100), (1, 101)])

    def test_for_a_block_that_is_read(self):
        line = Watched()
        line.ask(begin(128, [0]), *writes(range(64)))
        self.assertEqual(line.ask(read(100, []), forget(63), read(100, []), read(101, [])),
                         [found([]), [0], found([]), found([])])
        self.assertEqual(line.clean_places(), [101])

    def test_of_a_block_that_is_not_kept(self):
        line = Watched()
        line.ask(begin(128, [0]), *writes(range(64)), forget(100), write(101, [1]))
        self.assertEqual(len(line.asks()), 65)


class Power(unittest.TestCase):
    def test_asks_nobody(self):
        told = run(devices([0, OFF, 0, 0]), begin(16, [0]), write(1, [1]), forget(1), forget(2), read(1, []))
        self.assertEqual(told[2:], [[0], [0], [-100]])

    def test_devices_that_went(self):
        told = run(devices([0, GOES]), begin(16, [0]), read(1, []), write(1, [1]), forget(1), tell())
        self.assertEqual(told[1:], [[-2], [0], [0], kept([])])


if __name__ == "__main__":
    unittest.main()
