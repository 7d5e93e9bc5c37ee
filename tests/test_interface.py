"""How calls are handed in and answered, and what is answered without a cache."""

import unittest

from stretchcache.house import answers
from tests.lines import (ALL, FAIL, OFF, ROT, SICK, barrier, begin, devices, flat, found, read, read_sum, run, sum_at,
                         sync, write, writes)


class Form(unittest.TestCase):
    def test_number_by_number(self):
        calls = [10, 0, 2, 8, 16, 16, 16, 16, 16, 16, 16, 16, 2, 5, 0,
                 0, 1, 16, 1, 2, 0, 1,
                 2, 1, 3, 1, 2, 7, 0,
                 3, 0, 0,
                 4, 0, 0,
                 1, 2, 3, sum_at(3, [7]), 0,
                 1, 2, 3, 0, 0]
        self.assertEqual(answers(calls), [0, 1, 8, 1, 0, 1, 1, 1, 0, 2, 1, 7, 1, -2])

    def test_block_of_zeros_answers_one_number(self):
        self.assertEqual(answers(devices() + begin(16, [0]) + read(0, [])), [0, 1, 8, 1, 0])

    def test_devices_answers_nothing(self):
        self.assertEqual(answers(devices([0, FAIL], [1, SICK, 3], [2, ROT, 1, 2, 3], [3, OFF, 1, 2])), [0])

    def test_sizes_are_no_entry_of_the_script(self):
        told = run(devices(sizes=[16, 0, 0, 0, 0, 0, 0, 0]), begin(16, [0]), *[read_sum(0, 0)] * 16, read(0, []))
        self.assertEqual(told, [[8]] + [[-2]] * 16 + [found([])])

    def test_power_that_goes_answers_one_number(self):
        self.assertEqual(answers(devices([0, OFF, 0, 0]) + begin(16, [0]) + read(0, [])), [0, 1, 8, 1, -100])


class NoCache(unittest.TestCase):
    def test_before_begin(self):
        told = run(devices(), read(0, []), write(0, [1]), barrier(), sync())
        self.assertEqual(told, [[-9]] * 4)

    def test_ahead_of_other_refusals(self):
        told = run(devices(), write(ALL, [256]), write(0, [0] * 2000), read_sum(ALL, 0))
        self.assertEqual(told, [[-9]] * 3)

    def test_after_the_power_went(self):
        told = run(devices([0, OFF, 0, 0]), begin(16, [0]), read(0, []), read(0, []), write(0, [256]), barrier(),
                   sync(), begin(15, [0]), sync(), begin(16, [0]), sync())
        self.assertEqual(told, [[8], [-100], [-9], [-9], [-9], [-9], [-1], [-9], [8], [0]])


class NothingStays(unittest.TestCase):
    def line(self):
        return flat([devices([2, ROT, 8, 0, 5], [5, FAIL], [9, OFF, ALL, 1], [9, FAIL]), begin(16, [0, 1], [2]),
                     *writes(range(4)), barrier(), write(0, [3, 0, 0]), read(0, [3]), sync(), write(5, [300]),
                     sync(), begin(16, [0, 1], [2]), read(0, [3])])

    def test_what_is_handed_in_stays_as_it_was(self):
        calls = self.line()
        answers(calls)
        self.assertEqual(calls, self.line())

    def test_second_time_answers_as_the_first(self):
        calls = self.line()
        first = answers(calls)
        answers(flat([devices(), begin(16, [0]), write(0, [9]), sync()]))
        self.assertEqual(answers(calls), first)

    def test_answers_are_whole_numbers(self):
        given = answers(self.line())
        self.assertEqual({number.__class__ for number in given}, {int})

    def test_longest_line(self):
        calls = [devices(), begin(128, [0, 1, 2])]
        calls += [write(place % 120, [place % 256]) for place in range(200)]
        calls += [read_sum(place % 120, 0) for place in range(198)] + [read(0, [120])]
        told = run(*calls)
        self.assertEqual(len(told), 400)
        self.assertEqual(told[-1], found([120]))


if __name__ == "__main__":
    unittest.main()
