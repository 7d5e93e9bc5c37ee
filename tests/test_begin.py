"""Promise 1: begin."""

import unittest

from tests.lines import ALL, OFF, Watched, begin, devices, found, read, run, sync, write


class Begin(unittest.TestCase):
    def places(self, blocks, *mirrors):
        return run(devices(), begin(blocks, *mirrors))[0]

    def test_how_many_places(self):
        self.assertEqual(self.places(16, [0]), [8])
        self.assertEqual(self.places(17, [7]), [9])
        self.assertEqual(self.places(16, [0, 1, 2]), [8])
        self.assertEqual(self.places(100, [0, 1], [2], [5, 4, 3]), [276])
        self.assertEqual(self.places(65536, [0]), [65528])
        self.assertEqual(self.places(65536, *[[number] for number in range(8)]), [8 * 65528])

    def test_too_few_and_too_many_blocks(self):
        for blocks in (0, 8, 15, 65537, ALL):
            self.assertEqual(self.places(blocks, [0]), [-1])

    def test_no_mirror(self):
        self.assertEqual(self.places(16), [-1])

    def test_mirror_of_no_devices_and_of_too_many(self):
        self.assertEqual(self.places(16, []), [-1])
        self.assertEqual(self.places(16, [0], []), [-1])
        self.assertEqual(self.places(16, [0, 1, 2, 3]), [-1])
        self.assertEqual(self.places(16, [4], [0, 1, 2, 3]), [-1])
        self.assertEqual(self.places(16, *[[0]] * 100), [-1])
        self.assertEqual(self.places(16, list(range(100))), [-1])

    def test_device_twice(self):
        self.assertEqual(self.places(16, [0, 0]), [-1])
        self.assertEqual(self.places(16, [0, 1, 0]), [-1])
        self.assertEqual(self.places(16, [0, 1], [2, 0]), [-1])

    def test_device_that_there_is_not(self):
        self.assertEqual(self.places(16, [7]), [8])
        self.assertEqual(self.places(16, [8]), [-1])
        self.assertEqual(self.places(16, [0], [1, ALL]), [-1])

    def test_all_is_as_it_was_after_a_refusal(self):
        for refused in (begin(15, [0]), begin(16), begin(16, [1, 1]), begin(16, [8])):
            told = run(devices(), begin(16, [0]), write(3, [5]), refused, read(3, [5]), write(8, [1]), sync(),
                       read(3, [5]))
            self.assertEqual(told, [[8], [0], [-1], found([5]), [-1], [0], found([5])])

    def test_no_cache_comes_of_a_refusal(self):
        self.assertEqual(run(devices(), begin(15, [0]), sync()), [[-1], [-9]])

    def test_second_begin_is_a_new_cache_over_the_same_devices(self):
        told = run(devices(), begin(16, [0]), write(1, [1]), sync(), write(1, [2]), write(2, [2]),
                   begin(17, [0]), read(1, [2]), read(1, [1]), read(2, [2]), read(2, []))
        self.assertEqual(told, [[8], [0], [0], [0], [0], [9], [-2], found([1]), [-2], found([])])

    def test_second_begin_is_a_new_pool_of_good_devices(self):
        line = Watched([0, 0], [1, 0])
        self.assertEqual(line.ask(begin(16, [0]), write(0, [1]), sync(), sync()), [[8], [0], [-5], [-5]])
        self.assertEqual(line.asks(), [("write", 0, 8, [1])] * 2)
        self.assertEqual(line.ask(begin(16, [1, 0]), write(0, [1]), sync()), [[8], [0], [0]])
        self.assertEqual(line.asks(), [("write", 1, 8, [1]), ("write", 0, 8, [1]), ("flush", 1), ("flush", 0)])

    def test_begin_asks_nobody(self):
        self.assertEqual(run(devices([0, OFF, ALL, ALL]), begin(16, [0, 1], [2]), begin(16, [3])), [[16], [8]])

    def test_other_mirrors_over_the_same_devices(self):
        told = run(devices(), begin(16, [0], [1]), write(0, [1]), write(1, [2]), write(3, [3]), sync(),
                   begin(16, [1]), read(0, [2]), read(1, [3]))
        self.assertEqual(told[-2:], [found([2]), found([3])])


if __name__ == "__main__":
    unittest.main()
