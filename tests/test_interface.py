"""How calls are handed in and answered, and what is answered without a cache."""

import unittest

from stretchcache.house import answers
from tests.lines import (ALL, FAIL, GOES, OFF, ROT, SICK, TAKEN, barrier, begin, block, devices, flat, forget, found,
                         held, kept, read, read_sum, run, state, sum_at, sync, tell, total, write, writes)


class Form(unittest.TestCase):
    def test_number_by_number(self):
        calls = [10, 0, 2, 8, 16, 16, 16, 16, 16, 16, 16, 16, 2, 5, 0,
                 0, 1, 16, 1, 2, 0, 1,
                 2, 1, 3, 1, 2, 7, 0,
                 3, 0, 0,
                 4, 0, 0,
                 1, 2, 3, sum_at(3, [7]), 0,
                 1, 2, 3, 0, 0]
        self.assertEqual(answers(calls), [0, 1, 8, 1, 0, 1, 1, 1, 0, 2, 1, 7, 1, -2])

    def test_other_calls_number_by_number(self):
        calls = [10, 0, 1, 8, 16, 16, 16, 16, 16, 16, 16, 16,
                 0, 1, 16, 1, 2, 0, 1,
                 2, 1, 3, 1, 2, 7, 0,
                 6, 0, 0,
                 4, 0, 0,
                 6, 0, 0,
                 7, 1, 1, 1, 3, 1, 2, 3,
                 7, 1, 0, 1, 0,
                 7, 1, 0, 1, 1, 256,
                 8, 2, 1, 2, 0,
                 8, 2, 2, 2, 0,
                 9, 2, 1, 11, 0,
                 9, 2, 1, 16, 0,
                 5, 1, 3, 0,
                 6, 0, 0]
        self.assertEqual(answers(calls), [0, 1, 8, 1, 0, 3, 0, 0, 3, 1, 0, 2, 1, 3, 2, 0, 15446881869679657348,
                                          2, 0, 622622085048037531, 1, -1, 1, 0, 1, -1, 3, 1, 7, 7, 1, -1, 1, 0, 1, 0])

    def test_block_of_zeros_answers_one_number(self):
        self.assertEqual(answers(devices() + begin(16, [0]) + read(0, [])), [0, 1, 8, 1, 0])

    def test_devices_answers_nothing(self):
        self.assertEqual(answers(devices([0, FAIL], [1, SICK, 3], [2, ROT, 1, 2, 3], [3, OFF, 1, 2])), [0])

    def test_sizes_are_no_entry_of_the_script(self):
        told = run(devices(sizes=[16, 0, 0, 0, 0, 0, 0, 0]), begin(16, [0]), *[read_sum(0, 0)] * 16, read(0, []))
        self.assertEqual(told, [[8]] + [[-2]] * 16 + [found([])])

    def test_power_that_goes_answers_one_number(self):
        self.assertEqual(answers(devices([0, OFF, 0, 0]) + begin(16, [0]) + read(0, [])), [0, 1, 8, 1, -100])


class NoCache(unittest.TestCase):
    def test_before_begin(self):
        told = run(devices(), read(0, []), write(0, [1]), barrier(), sync(), forget(0), tell(), state(0, 0))
        self.assertEqual(told, [[-9]] * 7)

    def test_ahead_of_other_refusals(self):
        told = run(devices(), write(ALL, [256]), write(0, [0] * 2000), read_sum(ALL, 0), forget(ALL), state(0, 3),
                   state(8, 0), state(ALL, ALL))
        self.assertEqual(told, [[-9]] * 7)

    def test_sum_block_and_begin_are_answered(self):
        told = run(devices(), total(0, [1]), total(0, [256]), block(0, 0), block(8, 0), begin(15, [0]), begin(16, [0]))
        self.assertEqual(told, [[0, sum_at(0, [1])], [-1], [0], [-1], [-1], [8]])

    def test_after_a_refused_begin(self):
        told = run(devices(), begin(16), read(0, []), write(0, [1]), barrier(), sync(), forget(0), tell(), state(0, 0))
        self.assertEqual(told, [[-1]] + [[-9]] * 7)

    def test_after_the_power_went(self):
        told = run(devices([0, OFF, 0, 0]), begin(16, [0]), read(0, []), read(0, []), write(0, [256]), barrier(),
                   sync(), forget(0), tell(), state(0, 3), total(0, [1]), block(0, 8), begin(15, [0]), sync(),
                   begin(16, [0]), sync(), tell())
        self.assertEqual(told, [[8], [-100], [-9], [-9], [-9], [-9], [-9], [-9], [-9], [0, sum_at(0, [1])], [0], [-1],
                                [-9], [8], [0], [0]])


class AllCalls(unittest.TestCase):
    def test_asks_are_counted_over_all_of_them(self):
        told = run(devices([3, FAIL], [4, TAKEN], [11, OFF, 0b11, 1], [12, SICK, 9], [16, GOES]),
                   begin(16, [0, 1]),                                     # 0
                   *writes([0, 1]), total(0, [1]), tell(), block(0, 8),   # 1 to 5
                   sync(),                # 6: the asks 0 to 3 are writes, 3 fails, 4 is taken: 1 is out; 5 is a flush
                   tell(), block(1, 9), state(1, 1), barrier(),           # 7 to 10
                   write(0, [9, 8]), forget(1), sync(),                   # 11 to 13: the asks 6 to 9
                   begin(16, [0, 1]),                                     # 14
                   read(0, [9, 8]),                                       # 15: the ask 10
                   write(2, [4, 5]), tell(), sync(),                      # 16 to 18: the ask 11
                   tell(), total(1, []), block(0, 8), block(1, 9),        # 19 to 22
                   begin(16, [0, 1]),                                     # 23
                   read(1, [1, 1]),       # 24: the ask 12 finds it sick, 13 is a read, 14 a write
                   read(1, [1, 1]), state(0, 2), read(0, [9, 8]),         # 25 to 27: the ask 15
                   state(0, 0), read(2, []),                              # 28 and 29: the asks 16 to 19
                   state(0, 0), read(3, []), block(0, 9), tell())         # 30 to 33: the asks 20 to 23
        self.assertEqual(told[:7], [[8], [0], [0], [0, sum_at(0, [1])], kept([], (0, 0), (0, 1)), [0], [0]])
        self.assertEqual(told[7:14], [kept([0, 1]), held([1, 1], []), [0], [0], [0], [0], [0]])
        self.assertEqual(told[14:19], [[8], found([9, 8]), [0], kept([0], (0, 2)), [-100]])
        self.assertEqual(told[19:23], [[-9], [0, sum_at(1, [])], held([9, 8], [9, 8]), held([1, 1], [1, 1])])
        self.assertEqual(told[23:28], [[8], found([1, 1]), found([1, 1]), [0], found([9, 8])])
        self.assertEqual(told[28:], [[0], found([]), [0], found([]), held([1, 1], [1, 1]), kept([1, 0, 2, 3])])

    def test_calls_that_ask_nobody_do_not_count(self):
        quiet = [write(0, [1]), barrier(), forget(0), tell(), total(0, [1]), state(0, 1), state(0, 0), block(0, 8),
                 sync(), begin(15, [0]), begin(16, [0])]
        told = run(devices([0, OFF, 0, 0]), begin(16, [0]), *quiet, *quiet, read(0, []))
        self.assertEqual(told[-1], [-100])
        self.assertNotIn([-100], told[:-1])


class NothingStays(unittest.TestCase):
    def line(self):
        return flat([devices([2, ROT, 8, 0, 5], [5, FAIL], [9, OFF, ALL, 1], [9, FAIL]), begin(16, [0, 1], [2]),
                     *writes(range(4)), barrier(), write(0, [3, 0, 0]), read(0, [3]), forget(1), tell(), state(1, 1),
                     total(5, [1, 2, 0]), sync(), tell(), block(0, 8), block(1, 8), write(5, [300]), state(1, 3),
                     sync(), total(5, [300]), forget(0), tell(), sync(), block(2, 8), begin(16, [0, 1], [2]),
                     read(0, [3]), tell()])

    def test_what_is_handed_in_stays_as_it_was(self):
        calls = self.line()
        answers(calls)
        self.assertEqual(calls, self.line())

    def test_second_time_answers_as_the_first(self):
        calls = self.line()
        first = answers(calls)
        answers(flat([devices(), begin(16, [0]), write(0, [9]), state(0, 1), sync(), forget(0), total(5, [1])]))
        self.assertEqual(answers(calls), first)

    def test_answers_are_whole_numbers(self):
        given = answers(self.line())
        self.assertEqual({number.__class__ for number in given}, {int})

    def test_longest_line(self):
        calls = [devices(), begin(128, [0, 1, 2])]
        calls += [write(place % 120, [place % 256]) for place in range(200)]
        calls += [read_sum(place % 120, 0) for place in range(198)] + [read(0, [120])]
        told = run(*calls)
        self.assertEqual(len(told), 400)
        self.assertEqual(told[-1], found([120]))

    def test_most_answers(self):
        told = run(devices(sizes=[16] * 8), begin(16, [0]), write(0, [255] * 1024), sync(), total(0, [255] * 1024),
                   *[block(0, 8)] * 395, tell())
        self.assertEqual(told[3:], [[0, sum_at(0, [255] * 1024)]] + [held([255] * 1024, [255] * 1024)] * 395
                         + [kept([0])])


if __name__ == "__main__":
    unittest.main()
