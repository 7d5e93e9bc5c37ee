"""Promise 8: block."""

import unittest

from tests.lines import (ALL, FAIL, GOES, OFF, ROT, SICK, TAKEN, Watched, begin, block, devices, found, held, kept,
                         read, run, state, sync, tell, write, writes)


class Plain(unittest.TestCase):
    def test_zeros_at_first(self):
        self.assertEqual(run(devices(), block(0, 0), block(7, 127)), [[0], [0]])

    def test_sure(self):
        told = run(devices(), begin(16, [0]), write(2, [5, 6]), sync(), block(0, 10), block(0, 9), block(1, 10))
        self.assertEqual(told[3:], [[2, 5, 6, 5, 6], [0], [0]])

    def test_dirty_block_is_not_on_the_device(self):
        self.assertEqual(run(devices(), begin(16, [0]), write(2, [5, 6]), block(0, 10))[2:], [[0]])

    def test_on_its_way(self):
        told = run(devices([1, FAIL], [2, FAIL]), begin(16, [0]), write(2, [5, 6]), sync(), block(0, 10))
        self.assertEqual(told[2:], [[-5], [2, 5, 6]])

    def test_on_its_way_over_a_sure_one(self):
        told = run(devices([3, FAIL], [4, FAIL]), begin(16, [0]), write(2, [5, 6]), sync(), write(2, [7]), sync(),
                   block(0, 10))
        self.assertEqual(told[4:], [[-5], [1, 7, 5, 6]])

    def test_zeros_on_their_way_over_a_sure_one(self):
        told = run(devices([3, FAIL], [4, FAIL]), begin(16, [0]), write(2, [5, 6]), sync(), write(2, []), sync(),
                   block(0, 10))
        self.assertEqual(told[4:], [[-5], [0, 5, 6]])

    def test_last_of_several_on_their_way(self):
        told = run(devices([0, TAKEN], [1, TAKEN], [6, FAIL], [7, FAIL]), begin(16, [0, 1]), write(2, [5, 6]), sync(),
                   begin(16, [0]), write(2, [8]), write(3, [9]), sync(), block(0, 10), block(0, 11), block(1, 10))
        self.assertEqual(told[7:], [held([8], []), held([9], []), held([5, 6], [5, 6])])

    def test_zeros_at_the_end(self):
        told = run(devices([3, FAIL], [4, FAIL]), begin(16, [0]), write(2, [1, 0, 0]), sync(), write(2, [0, 2, 0]),
                   sync(), block(0, 10))
        self.assertEqual(told[-1], [2, 0, 2, 1])

    def test_whole_block(self):
        told = run(devices(), begin(16, [0]), write(2, [3] * 1024), sync(), block(0, 10))
        self.assertEqual(told[-1], held([3] * 1024, [3] * 1024))

    def test_of_each_device(self):
        told = run(devices(), begin(16, [3, 1], [2]), write(2, [4]), write(5, [6]), sync(),
                   *[block(number, 9) for number in range(4)], block(2, 10))
        self.assertEqual(told[4:], [[0], held([4], [4]), [0], held([4], [4]), held([6], [6])])


class Refusals(unittest.TestCase):
    def test_device_that_there_is_not(self):
        self.assertEqual(run(devices(), block(7, 0), block(8, 0), block(ALL, 0)), [[0], [-1], [-1]])

    def test_block_that_there_is_not(self):
        sizes = [16, 0, 1, 4096, 16, 16, 16, 16]
        told = run(devices(sizes=sizes), block(0, 15), block(0, 16), block(0, ALL), block(1, 0), block(2, 0),
                   block(2, 1), block(3, 4095), block(3, 4096))
        self.assertEqual(told, [[0], [-1], [-1], [-1], [0], [-1], [0], [-1]])

    def test_block_that_the_pool_has_and_the_device_has_not(self):
        told = run(devices(sizes=[10] * 8), begin(16, [0]), block(0, 9), block(0, 10), block(0, 15))
        self.assertEqual(told[1:], [[0], [-1], [-1]])

    def test_device_and_slot_that_are_not_the_pools(self):
        told = run(devices(), begin(16, [0]), block(0, 3), block(5, 3), block(0, 16))
        self.assertEqual(told[1:], [[0], [0], [0]])


class NobodyIsAsked(unittest.TestCase):
    def test_plain(self):
        line = Watched()
        line.ask(begin(16, [0]), block(0, 8), block(8, 8), block(0, 4000))
        self.assertEqual(line.asks(), [])

    def test_script_does_not_count_it(self):
        told = run(devices([0, OFF, 0, 0]), block(0, 0), block(9, 9), begin(16, [0]), block(0, 8), block(0, 9),
                   read(0, []))
        self.assertEqual(told, [[0], [-1], [8], [0], [0], [-100]])

    def test_nothing_is_kept_of_it(self):
        told = run(devices(), begin(16, [0]), write(1, [1]), sync(), read(2, []), block(0, 9), block(0, 11), tell())
        self.assertEqual(told[-1], kept([1, 2]))

    def test_sick_block(self):
        told = run(devices([2, SICK, 10]), begin(16, [0]), write(2, [5]), sync(), begin(16, [0]), read(2, [5]),
                   block(0, 10))
        self.assertEqual(told[4:], [[-2], held([5], [5])])

    def test_sick_block_stays_sick(self):
        told = run(devices([2, SICK, 10]), begin(16, [0]), write(2, [5]), sync(), begin(16, [0]), read(2, [5]),
                   block(0, 10), read(2, [5]))
        self.assertEqual(told[6:], [[-2]])

    def test_device_that_is_gone(self):
        told = run(devices([2, GOES]), begin(16, [0]), write(2, [5]), sync(), begin(16, [0]), read(2, [5]),
                   block(0, 10), block(0, 127), block(0, 128))
        self.assertEqual(told[4:], [[-2], held([5], [5]), [0], [-1]])

    def test_on_its_way_in_a_device_that_is_gone(self):
        told = run(devices([1, GOES]), begin(16, [0]), write(2, [5]), sync(), block(0, 10))
        self.assertEqual(told[2:], [[-5], held([5], [])])

    def test_device_that_is_out_or_being_filled(self):
        for s in (1, 2):
            told = run(devices(), begin(16, [0]), write(2, [5]), sync(), state(0, s), block(0, 10))
            self.assertEqual(told[-1], held([5], [5]))

    def test_cache_that_has_failed(self):
        told = run(devices([0, FAIL], [1, TAKEN]), begin(16, [0]), write(2, [5]), sync(), block(0, 10))
        self.assertEqual(told[2:], [[-5], held([5], [])])


class WithoutACache(unittest.TestCase):
    def test_before_begin(self):
        self.assertEqual(run(devices(), block(0, 0), block(0, 128), block(8, 0)), [[0], [-1], [-1]])

    def test_after_a_refused_begin(self):
        self.assertEqual(run(devices(), begin(15, [0]), block(0, 0), tell()), [[-1], [0], [-9]])

    def test_after_the_power_went(self):
        told = run(devices([3, OFF, 0b101, 1]), begin(16, [0]), write(0, [1, 2]), write(1, [3, 4]), write(2, [5, 6]),
                   sync(), block(0, 8), block(0, 9), block(0, 10), block(0, 128), block(8, 0), tell())
        self.assertEqual(told[4:], [[-100], held([1, 2], [1, 2]), [0], held([5], [5]), [-1], [-1], [-9]])

    def test_nothing_is_on_its_way_after_the_power_went(self):
        told = run(devices([1, OFF, 0, 0]), begin(16, [0]), write(0, [1, 2]), sync(), block(0, 8))
        self.assertEqual(told[2:], [[-100], [0]])

    def test_devices_stay_over_a_second_begin(self):
        told = run(devices([2, FAIL], [3, FAIL], [6, FAIL], [7, FAIL]), begin(16, [0]), *writes([0, 1]), sync(),
                   begin(17, [1], [0]), block(0, 8), block(0, 9), write(1, [9]), sync(), block(0, 8))
        self.assertEqual(told[3:], [[-5], [18], held([0, 1], []), held([1, 1], []), [0], [-5], held([9], [])])


class Scripts(unittest.TestCase):
    def test_rot_makes_sure_and_changes_a_byte(self):
        told = run(devices([1, ROT, 9, 3, 256 + 7], [2, FAIL]), begin(16, [0]), write(0, [1]), sync(), block(0, 8),
                   block(0, 9))
        self.assertEqual(told[2:], [[0], held([1], [1]), held([0, 0, 0, 7], [0, 0, 0, 7])])

    def test_rot_under_a_write_on_its_way(self):
        told = run(devices([2, FAIL], [3, FAIL], [5, ROT, 8, 0, 9], [6, FAIL], [7, FAIL]), begin(16, [0, 1]),
                   write(0, [1, 2]), sync(), begin(16, [0]), write(0, [3]), sync(), block(0, 8), block(1, 8))
        self.assertEqual(told[2:], [[0], [8], [0], [-5], held([3], [9, 2]), held([1, 2], [1, 2])])

    def test_what_it_tells_is_what_read_finds(self):
        told = run(devices([0, TAKEN], [1, FAIL]), begin(16, [0, 1]), write(0, [4]), sync(), block(0, 8), block(1, 8),
                   begin(16, [0]), read(0, [4]))
        self.assertEqual(told[2:], [[0], held([4], []), held([4], [4]), [8], found([4])])


if __name__ == "__main__":
    unittest.main()
