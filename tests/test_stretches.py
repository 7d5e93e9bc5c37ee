"""Promise 4: barrier and sync."""

import unittest

from stretchcache.pool import BEING_FILLED, GOOD, OUT
from tests.lines import (ALL, FAIL, GOES, OFF, TAKEN, Watched, barrier, begin, devices, found, marked, read, run, state,
                         sync, write, writes)


class Barrier(unittest.TestCase):
    def test_next_stretch_after_dirty_blocks_alone(self):
        told = run(devices(), begin(16, [0]), barrier(), write(0, [1]), barrier(), barrier(), write(0, [2]),
                   write(1, [2]), barrier())
        self.assertEqual(told, [[8], [0], [0], [1], [1], [0], [0], [2]])

    def test_dirty_blocks_of_an_earlier_stretch_do_not_count(self):
        line = Watched()
        self.assertEqual(line.ask(begin(16, [0]), write(0, [1]), barrier(), barrier(), barrier())[2:], [[1]] * 3)
        self.assertEqual(line.dirty_keys(), [(0, 0)])

    def test_clean_blocks_do_not_count(self):
        told = run(devices(), begin(16, [0]), write(0, [1]), sync(), barrier(), read(0, [1]), barrier(),
                   write(0, [1]), barrier())
        self.assertEqual([told[3], told[5], told[7]], [[0], [0], [1]])

    def test_barrier_asks_nobody(self):
        line = Watched()
        line.ask(begin(16, [0]), write(0, [1]), barrier())
        self.assertEqual(line.asks(), [])

    def test_new_cache_begins_with_stretch_0(self):
        told = run(devices(), begin(16, [0]), write(0, [1]), barrier(), begin(16, [0]), barrier())
        self.assertEqual(told[-1], [0])

    def test_barrier_of_a_cache_that_has_failed(self):
        told = run(devices([0, GOES]), begin(16, [0]), write(0, [1]), sync(), barrier(), barrier())
        self.assertEqual(told[2:], [[-5], [1], [1]])


class Sync(unittest.TestCase):
    def test_nothing_dirty_asks_nobody(self):
        line = Watched()
        self.assertEqual(line.ask(begin(16, [0]), sync(), write(0, [1]), sync())[1:], [[0], [0], [0]])
        line.asks()
        self.assertEqual(line.ask(sync()), [[0]])
        self.assertEqual(line.asks(), [])

    def test_stretches_in_their_order(self):
        line = Watched()
        line.ask(begin(16, [0, 1], [2]), write(4, [1]), write(1, [2]), barrier(), write(0, [3]), barrier(),
                 write(1, [4]))
        self.assertEqual(line.ask(sync()), [[0]])
        flushes = [("flush", 0), ("flush", 1), ("flush", 2)]
        self.assertEqual(line.asks(), [("write", 0, 10, [1]), ("write", 1, 10, [1]), ("write", 2, 8, [2])] + flushes
                         + [("write", 0, 8, [3]), ("write", 1, 8, [3])] + flushes
                         + [("write", 2, 8, [4])] + flushes)
        self.assertEqual(line.dirty_keys(), [])
        self.assertEqual(line.clean_places(), [4, 0, 1])

    def test_devices_are_flushed_in_the_order_of_the_mirrors(self):
        line = Watched()
        line.ask(begin(16, [5, 3], [4], [0, 7, 1]), write(0, [1]), sync())
        self.assertEqual(line.asks()[2:], [("flush", number) for number in (5, 3, 4, 0, 7, 1)])

    def test_clean_ones_come_behind_the_others(self):
        line = Watched()
        line.ask(begin(16, [0]), read(7, []), *writes([3, 1, 2]), sync(), read(6, []), *writes([5, 0]), sync())
        self.assertEqual(line.clean_places(), [7, 3, 1, 2, 6, 5, 0])

    def test_what_was_synced_is_on_the_devices(self):
        told = run(devices([10, OFF, 0, 0]), begin(16, [0, 1]), *writes([1, 2]), barrier(), *writes([1], 2), sync(),
                   write(3, [1]), sync(), begin(16, [1]), read(1, marked(1, 2)), read(2, marked(2)), read(3, []))
        self.assertEqual(told[5:], [[0], [0], [-100], [8], found(marked(1, 2)), found(marked(2)), found([])])


class Failing(unittest.TestCase):
    def test_write_that_fails_once(self):
        for happening in (FAIL, TAKEN):
            line = Watched([0, happening])
            self.assertEqual(line.ask(begin(16, [0]), write(0, [1]), sync())[2:], [[0]])
            self.assertEqual(line.asks(), [("write", 0, 8, [1])] * 2 + [("flush", 0)])
            self.assertEqual(line.state(0), GOOD)

    def test_device_that_is_out_is_asked_no_more(self):
        line = Watched([0, FAIL], [1, TAKEN])
        self.assertEqual(line.ask(begin(16, [0, 1]), *writes([0, 1]), sync(), write(2, [1]), sync())[3:],
                         [[0], [0], [0]])
        self.assertEqual(line.asks(), [("write", 0, 8, [0, 1]), ("write", 0, 8, [0, 1]), ("write", 1, 8, [0, 1]),
                                       ("write", 1, 9, [1, 1]), ("flush", 1), ("write", 1, 10, [1]), ("flush", 1)])
        self.assertEqual(line.state(0), OUT)

    def test_written_up_to_the_first_that_is_not(self):
        line = Watched([1, FAIL], [2, FAIL])
        self.assertEqual(line.ask(begin(16, [0], [1]), *writes([0, 1, 2]), sync())[4:], [[-5]])
        self.assertEqual(line.asks(), [("write", 0, 8, [0, 1]), ("write", 1, 8, [1, 1]), ("write", 1, 8, [1, 1])])
        self.assertEqual(line.dirty_keys(), [(0, 0), (0, 1), (0, 2)])
        self.assertEqual(line.clean_places(), [])

    def test_all_of_a_mirror_are_put_it_when_one_fails(self):
        line = Watched([0, GOES])
        self.assertEqual(line.ask(begin(16, [0, 1, 2]), write(0, [1]), sync())[2:], [[0]])
        self.assertEqual([ask[1] for ask in line.asks()], [0, 0, 1, 2, 1, 2])

    def test_flush_that_fails_once(self):
        for happening in (FAIL, TAKEN):
            line = Watched([1, happening])
            self.assertEqual(line.ask(begin(16, [0]), write(0, [1]), sync())[2:], [[0]])
            self.assertEqual(line.asks()[1:], [("flush", 0)] * 2)
            self.assertEqual(line.state(0), GOOD)

    def test_flush_that_fails_twice_with_another_good_device(self):
        line = Watched([2, FAIL], [3, FAIL])
        self.assertEqual(line.ask(begin(16, [0, 1]), write(0, [1]), sync())[2:], [[0]])
        self.assertEqual(line.asks()[2:], [("flush", 0), ("flush", 0), ("flush", 1)])
        self.assertEqual(line.state(0), OUT)

    def test_flush_without_a_good_device_in_a_mirror(self):
        line = Watched([1, GOES])
        self.assertEqual(line.ask(begin(16, [0], [1, 2]), write(0, [1]), sync())[2:], [[-5]])
        self.assertEqual(line.asks()[1:], [("flush", 0), ("flush", 0), ("flush", 1), ("flush", 2)])
        self.assertEqual(line.dirty_keys(), [(0, 0)])

    def test_all_devices_of_a_mirror_go_out(self):
        line = Watched([0, GOES], [2, GOES])
        told = line.ask(begin(16, [0, 2], [1]), write(0, [1]), sync())
        self.assertEqual(told[2:], [[-5]])
        self.assertEqual([ask[:2] for ask in line.asks()], [("write", 0), ("write", 0), ("write", 2), ("write", 2)])
        self.assertEqual([line.state(number) for number in range(3)], [OUT, GOOD, OUT])

    def test_sync_again_asks_nothing(self):
        line = Watched([2, FAIL], [3, FAIL])
        told = line.ask(begin(16, [0]), write(0, [1]), barrier(), write(1, [1]), barrier(), write(2, [1]), sync())
        self.assertEqual(told[-1], [-5])
        self.assertEqual([ask[:2] for ask in line.asks()], [("write", 0), ("flush", 0), ("write", 0), ("write", 0)])
        self.assertEqual(line.dirty_keys(), [(1, 1), (2, 2)])
        self.assertEqual(line.clean_places(), [0])
        self.assertEqual(line.ask(sync(), sync()), [[-5], [-5]])
        self.assertEqual(line.asks(), [])

    def test_device_that_is_being_filled_is_put_the_block_but_does_not_count(self):
        line = Watched()
        line.ask(begin(16, [0, 1]), write(0, [1]))
        line.ask(state(0, BEING_FILLED))
        self.assertEqual(line.ask(sync()), [[0]])
        self.assertEqual([ask[:2] for ask in line.asks()], [("write", 0), ("write", 1), ("flush", 0), ("flush", 1)])
        line.ask(state(1, BEING_FILLED))
        self.assertEqual(line.ask(write(1, [1]), sync()), [[0], [-5]])
        self.assertEqual([ask[:2] for ask in line.asks()], [("write", 0), ("write", 1)])

    def test_device_that_is_being_filled_behind_a_good_one(self):
        line = Watched()
        line.ask(begin(16, [0, 1]), write(0, [1]))
        line.ask(state(1, BEING_FILLED))
        self.assertEqual(line.ask(sync()), [[0]])
        self.assertEqual([ask[:2] for ask in line.asks()], [("write", 0), ("write", 1), ("flush", 0), ("flush", 1)])

    def test_device_that_is_being_filled_goes_out_too(self):
        line = Watched([0, FAIL], [1, FAIL])
        line.ask(begin(16, [0, 1]), write(0, [1]))
        line.ask(state(0, BEING_FILLED))
        self.assertEqual(line.ask(sync()), [[0]])
        self.assertEqual(line.state(0), OUT)

    def test_mirror_with_one_that_is_being_filled_alone_fails_the_flush(self):
        line = Watched()
        line.ask(begin(16, [0], [1]), write(0, [1]))
        line.ask(state(1, BEING_FILLED))
        self.assertEqual(line.ask(sync()), [[-5]])
        self.assertEqual([ask[:2] for ask in line.asks()], [("write", 0), ("flush", 0), ("flush", 1)])


class Power(unittest.TestCase):
    def test_no_cache_afterwards(self):
        told = run(devices([1, OFF, ALL, ALL]), begin(16, [0]), write(0, [1]), sync(), sync(), barrier(),
                   write(0, [1]), read(0, [1]), begin(16, [0]), barrier(), read(0, [1]))
        self.assertEqual(told, [[8], [0], [-100], [-9], [-9], [-9], [-9], [8], [0], found([1])])

    def test_which_writes_arrive(self):
        told = run(devices([3, OFF, 0b101, 1]), begin(16, [0]), *writes(range(3), 9), sync(), begin(16, [0]),
                   read(0, [0, 9]), read(1, []), read(2, [2]))
        self.assertEqual(told[4:], [[-100], [8], found([0, 9]), found([]), found([2])])

    def test_rows_of_more_than_64_writes(self):
        told = run(devices([64, FAIL], [65, FAIL], [76, OFF, 0b11, 1]), begin(128, [0]), *writes(range(64)), sync(),
                   begin(128, [0]), *writes(range(64, 74)), sync(), begin(128, [0]),
                   read(0, marked(0)), read(1, marked(1)), read(2, []), read(63, []), read(64, marked(64)),
                   read(65, [65]), read(66, []))
        self.assertEqual(told[65], [-5])
        self.assertEqual(told[77:], [[-100], [120], found(marked(0)), found(marked(1)), found([]), found([]),
                                     found(marked(64)), found([65]), found([])])

    def test_script_goes_on_with_the_count_of_the_asks(self):
        told = run(devices([0, OFF, 0, 0], [1, OFF, 0, 0], [3, FAIL]), begin(16, [0]), write(0, [1]), sync(),
                   begin(16, [0]), write(0, [1]), sync(), begin(16, [0]), read(0, []), read(1, []), read(1, []))
        self.assertEqual(told, [[8], [0], [-100], [8], [0], [-100], [8], found([]), [-2], found([])])

    def test_devices_that_went_stay_gone(self):
        told = run(devices([0, GOES], [2, OFF, ALL, ALL]), begin(16, [0, 1]), write(0, [1]), sync(),
                   begin(16, [0]), read(0, []), begin(16, [1]), read(0, []))
        self.assertEqual(told, [[8], [0], [-100], [8], [-2], [8], found([])])


if __name__ == "__main__":
    unittest.main()
