"""Promise 5: told."""

import unittest

from tests.lines import (FAIL, GOES, OFF, Watched, barrier, begin, devices, forget, kept, marked, read, run, sync, tell,
                         write, writes)


class Told(unittest.TestCase):
    def test_empty_cache(self):
        self.assertEqual(run(devices(), begin(16, [0]), tell()), [[8], [0]])

    def test_number_by_number(self):
        told = run(devices(), begin(16, [0]), *writes([5, 3]), sync(), *writes([1, 0]), barrier(), write(1, [2]),
                   tell())
        self.assertEqual(told[-1], [2, 5, 3, 0, 1, 0, 0, 1, 1])

    def test_clean_ones_alone(self):
        told = run(devices(), begin(16, [0]), *writes([4, 2, 3]), sync(), tell())
        self.assertEqual(told[-1], [3, 4, 2, 3])

    def test_dirty_ones_alone(self):
        told = run(devices(), begin(16, [0]), *writes([4, 2]), tell())
        self.assertEqual(told[-1], [0, 0, 4, 0, 2])

    def test_longest_unused_first(self):
        told = run(devices(), begin(16, [0]), *writes([1, 2, 3]), sync(), tell(), read(1, marked(1)), tell(),
                   read(3, marked(3)), tell(), read(3, marked(3)), tell(), read(2, marked(1)), tell(), read(0, []),
                   tell())
        self.assertEqual(told[5::2], [kept([1, 2, 3]), kept([2, 3, 1]), kept([2, 1, 3]), kept([2, 1, 3]),
                                      kept([2, 1, 3]), kept([2, 1, 3, 0])])

    def test_dirty_ones_in_the_order_of_stretches_and_writes(self):
        told = run(devices(), begin(16, [0]), *writes([7, 3, 5]), barrier(), *writes([3, 6]), barrier(),
                   *writes([0, 7]), write(0, [9]), tell(), read(3, marked(3)), tell())
        row = kept([], (0, 7), (0, 3), (0, 5), (1, 3), (1, 6), (2, 0), (2, 7))
        self.assertEqual([told[-3], told[-1]], [row, row])

    def test_written_place_is_clean_no_more(self):
        told = run(devices(), begin(16, [0]), *writes([1, 2, 3]), sync(), write(2, [9]), tell())
        self.assertEqual(told[-1], kept([1, 3], (0, 2)))

    def test_stretch_numbers_go_on_after_sync(self):
        told = run(devices(), begin(16, [0]), write(1, [1]), barrier(), sync(), write(2, [1]), tell())
        self.assertEqual(told[-1], kept([1], (1, 2)))

    def test_stretch_that_went_out_with_a_later_one_behind(self):
        line = Watched()
        line.ask(begin(128, [0]), *writes(range(3)), barrier(), write(1, [9]), *writes(range(3, 63)))
        self.assertEqual(line.ask(tell())[0][:8], [0, 0, 0, 0, 1, 0, 2, 1])
        self.assertEqual(line.ask(write(100, [1]), tell())[1][:5], [2, 0, 2, 1, 1])

    def test_all_sixty_four(self):
        told = run(devices(), begin(128, [0]), *writes(range(40)), sync(), *writes(range(40, 66)), tell())
        self.assertEqual(told[-1], kept(list(range(2, 40)), *[(0, place) for place in range(40, 66)]))

    def test_sixty_four_dirty_ones(self):
        told = run(devices(), begin(128, [0]), *writes(range(64)), tell())
        self.assertEqual(told[-1], kept([], *[(0, place) for place in range(64)]))

    def test_failed_cache_has_all_dirty(self):
        told = run(devices([0, GOES]), begin(16, [0]), read(5, []), *writes([1, 2]), barrier(), *writes([1]), sync(),
                   tell())
        self.assertEqual(told[-2:], [[-5], kept([], (0, 1), (0, 2), (1, 1))])

    def test_failed_flush_leaves_all_dirty(self):
        told = run(devices([1, FAIL], [2, FAIL]), begin(16, [0]), write(1, [1]), sync(), tell())
        self.assertEqual(told[-2:], [[-5], kept([], (0, 1))])

    def test_asks_nobody(self):
        line = Watched()
        line.ask(begin(16, [0]), read(3, []), write(1, [1]), barrier(), write(2, [1]))
        line.asks()
        self.assertEqual(line.ask(tell(), tell()), [kept([3], (0, 1), (1, 2))] * 2)
        self.assertEqual(line.asks(), [])

    def test_script_does_not_count_it(self):
        told = run(devices([0, OFF, 0, 0]), begin(16, [0]), write(1, [1]), tell(), tell(), sync(), tell())
        self.assertEqual(told[2:], [kept([], (0, 1)), kept([], (0, 1)), [-100], [-9]])

    def test_new_cache_has_nothing(self):
        told = run(devices(), begin(16, [0]), write(1, [1]), barrier(), write(2, [1]), forget(1), begin(16, [0]),
                   tell())
        self.assertEqual(told[-1], kept([]))


if __name__ == "__main__":
    unittest.main()
