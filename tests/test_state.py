"""Promise 7: state."""

import unittest

from stretchcache.pool import BEING_FILLED, GOOD, OUT
from tests.lines import (ALL, FAIL, GOES, OFF, ROT, SICK, Watched, begin, block, devices, found, held, kept, read, run,
                         state, sync, tell, write, writes)


class Refusals(unittest.TestCase):
    def test_good_being_filled_and_out(self):
        line = Watched()
        line.ask(begin(16, [0], [1]))
        for s in (BEING_FILLED, OUT, GOOD, OUT, BEING_FILLED, GOOD, GOOD):
            self.assertEqual(line.ask(state(1, s)), [[0]])
            self.assertEqual([line.state(0), line.state(1)], [GOOD, s])
        self.assertEqual([GOOD, BEING_FILLED, OUT], [0, 1, 2])

    def test_no_such_state(self):
        told = run(devices(), begin(16, [0]), state(0, 2), state(0, 3), state(0, ALL))
        self.assertEqual(told[1:], [[0], [-1], [-1]])

    def test_no_such_device(self):
        told = run(devices(), begin(16, [0, 2], [7]), *[state(number, 1) for number in (0, 1, 2, 3, 6, 7, 8, ALL)])
        self.assertEqual(told[1:], [[0], [-1], [0], [-1], [-1], [0], [-1], [-1]])

    def test_neither(self):
        self.assertEqual(run(devices(), begin(16, [0]), state(1, 3), state(8, 3))[1:], [[-1], [-1]])

    def test_refusal_changes_nothing(self):
        line = Watched()
        line.ask(begin(16, [0], [1]), state(0, 3), state(2, 2), state(8, 2))
        self.assertEqual([line.state(0), line.state(1)], [GOOD, GOOD])
        self.assertEqual(line.ask(state(0, 1), state(0, 3)), [[0], [-1]])
        self.assertEqual(line.state(0), BEING_FILLED)

    def test_asks_nobody(self):
        line = Watched()
        line.ask(begin(16, [0, 1]), write(0, [1]), *[state(number, s) for number in range(3) for s in range(4)])
        self.assertEqual(line.asks(), [])
        told = run(devices([0, OFF, 0, 0]), begin(16, [0]), state(0, 1), state(0, 0), read(0, []))
        self.assertEqual(told[1:], [[0], [0], [-100]])

    def test_what_is_kept_stays(self):
        told = run(devices(), begin(16, [0]), read(1, []), write(0, [1]), state(0, 2), tell(), read(0, [1]),
                   read(1, []))
        self.assertEqual(told[3:], [[0], kept([1], (0, 0)), found([1]), found([])])

    def test_device_that_is_gone_or_has_no_blocks(self):
        told = run(devices([0, GOES], sizes=[0] * 8), begin(16, [0]), read(0, []), state(0, 1), state(0, 0))
        self.assertEqual(told[1:], [[-2], [0], [0]])


class BeingFilled(unittest.TestCase):
    def test_written_and_flushed_but_not_read(self):
        line = Watched()
        line.ask(begin(16, [0, 1]), state(0, 1), read(0, []), write(1, [1]), sync())
        self.assertEqual(line.asks(), [("read", 1, 8), ("write", 0, 9, [1]), ("write", 1, 9, [1]), ("flush", 0),
                                       ("flush", 1)])

    def test_not_read_when_the_good_ones_have_it_not(self):
        line = Watched([0, FAIL])
        self.assertEqual(line.ask(begin(16, [0, 1, 2]), state(1, 1), read(0, [])), [[8], [0], found([])])
        self.assertEqual(line.asks(), [("read", 0, 8), ("read", 2, 8), ("write", 0, 8, [])])
        line = Watched()
        self.assertEqual(line.ask(begin(16, [0]), state(0, 1), read(0, [])), [[8], [0], [-2]])
        self.assertEqual(line.asks(), [])

    def test_write_that_it_alone_was_given(self):
        line = Watched()
        told = line.ask(begin(16, [0], [1]), state(0, 1), *writes([0, 1]), sync(), tell(), sync())
        self.assertEqual(told[4:], [[-5], kept([], (0, 0), (0, 1)), [-5]])
        self.assertEqual(line.asks(), [("write", 0, 8, [0, 1])])

    def test_write_that_it_was_given_and_no_good_one(self):
        line = Watched([1, FAIL], [2, FAIL])
        self.assertEqual(line.ask(begin(16, [0, 1]), state(0, 1), write(0, [5]), sync(), tell())[3:],
                         [[-5], kept([], (0, 0))])
        self.assertEqual(line.asks(), [("write", 0, 8, [5]), ("write", 1, 8, [5]), ("write", 1, 8, [5])])
        self.assertEqual([line.state(0), line.state(1)], [BEING_FILLED, OUT])

    def test_write_that_a_good_one_was_given_and_it_not(self):
        line = Watched([0, FAIL], [1, FAIL])
        self.assertEqual(line.ask(begin(16, [0, 1]), state(0, 1), write(0, [5]), sync(), tell())[3:], [[0], kept([0])])
        self.assertEqual([line.state(0), line.state(1)], [OUT, GOOD])

    def test_flush_that_it_fails(self):
        line = Watched([2, FAIL], [3, FAIL])
        self.assertEqual(line.ask(begin(16, [0, 1]), state(0, 1), write(0, [5]), sync())[3:], [[0]])
        self.assertEqual([line.state(0), line.state(1)], [OUT, GOOD])

    def test_it_stays_so_when_it_is_given_all(self):
        line = Watched()
        line.ask(begin(16, [0, 1]), state(1, 1), write(0, [5]), sync(), write(1, [5]), sync())
        self.assertEqual(line.state(1), BEING_FILLED)

    def test_its_own_mirror_alone(self):
        line = Watched()
        line.ask(begin(16, [0], [1]), state(0, 1), read(1, []), read(0, []))
        self.assertEqual(line.asks(), [("read", 1, 8)])


class Out(unittest.TestCase):
    def test_asked_nothing(self):
        line = Watched()
        told = line.ask(begin(16, [0, 1]), state(0, 2), read(0, []), write(1, [1]), sync(), tell())
        self.assertEqual(told[2:], [found([]), [0], [0], kept([0, 1])])
        self.assertEqual(line.asks(), [("read", 1, 8), ("write", 1, 9, [1]), ("flush", 1)])

    def test_not_mended_either(self):
        line = Watched([0, FAIL])
        line.ask(begin(16, [0, 1, 2]), state(1, 2), read(0, []))
        self.assertEqual(line.asks(), [("read", 0, 8), ("read", 2, 8), ("write", 0, 8, [])])

    def test_all_of_the_mirror(self):
        line = Watched()
        told = line.ask(begin(16, [0, 1], [2]), state(0, 2), state(1, 2), read(0, []), write(0, [1]), sync(), tell())
        self.assertEqual(told[3:], [[-2], [0], [-5], kept([], (0, 0))])
        self.assertEqual(line.asks(), [])

    def test_good_again(self):
        line = Watched([0, FAIL], [1, FAIL])
        line.ask(begin(16, [0, 1]), write(0, [1]), sync())
        self.assertEqual(line.state(0), OUT)
        line.asks()
        self.assertEqual(line.ask(state(0, 0), read(1, []), write(2, [1]), sync()), [[0], found([]), [0], [0]])
        self.assertEqual(line.asks(), [("read", 0, 9), ("write", 0, 10, [1]), ("write", 1, 10, [1]), ("flush", 0),
                                       ("flush", 1)])

    def test_good_again_with_what_it_had(self):
        line = Watched()
        told = line.ask(begin(16, [0, 1]), state(0, 2), write(3, [1]), sync(), begin(16, [0, 1]), read(3, [1]),
                        block(0, 11))
        self.assertEqual(told[5:], [found([1]), held([1], [])])

    def test_being_filled_from_then_on(self):
        line = Watched()
        line.ask(begin(16, [0, 1]), state(0, 2), write(3, [1]), sync(), state(0, 1), write(4, [1]), sync())
        self.assertEqual([ask[:2] for ask in line.asks()], [("write", 1), ("flush", 1), ("write", 0), ("write", 1),
                                                            ("flush", 0), ("flush", 1)])

    def test_out_by_the_pool_and_good_by_the_call_fails_again(self):
        line = Watched([0, GOES])
        line.ask(begin(16, [0, 1]), write(0, [1]), sync(), state(0, 0), write(1, [1]), sync())
        self.assertEqual([ask[:2] for ask in line.asks()], [("write", 0), ("write", 0), ("write", 1), ("flush", 1)] * 2)
        self.assertEqual(line.state(0), OUT)


class Flushed(unittest.TestCase):
    def test_mirror_without_a_good_device(self):
        for s in (BEING_FILLED, OUT):
            line = Watched()
            told = line.ask(begin(16, [0], [1, 2]), state(1, s), state(2, s), write(0, [1]), sync(), tell(), sync())
            self.assertEqual(told[4:], [[-5], kept([], (0, 0)), [-5]])
            asked = [("write", 0), ("flush", 0)]
            if s == BEING_FILLED:
                asked += [("flush", 1), ("flush", 2)]
            self.assertEqual([ask[:2] for ask in line.asks()], asked)

    def test_nothing_dirty_needs_no_good_device(self):
        line = Watched()
        self.assertEqual(line.ask(begin(16, [0], [1]), state(0, 2), state(1, 1), sync())[3:], [[0]])
        self.assertEqual(line.asks(), [])

    def test_one_good_device_is_enough(self):
        line = Watched()
        told = line.ask(begin(16, [0, 1, 2]), state(0, 2), state(1, 1), write(0, [1]), sync())
        self.assertEqual(told[-1], [0])

    def test_failed_cache_stays_so_with_good_devices(self):
        line = Watched()
        told = line.ask(begin(16, [0]), state(0, 2), write(0, [1]), sync(), state(0, 0), sync(), write(1, [1]),
                        read(2, []))
        self.assertEqual(told[3:], [[-5], [0], [-5], [-5], found([])])
        self.assertEqual(line.asks(), [("read", 0, 10)])

    def test_full_cache_without_a_good_device(self):
        line = Watched()
        line.ask(begin(128, [0]), *writes(range(64)), state(0, 2))
        self.assertEqual(line.ask(write(100, [1]), read(5, [5, 1]), state(0, 0), write(100, [1])),
                         [[-5], found([5, 1]), [0], [-5]])
        self.assertEqual(line.asks(), [])

    def test_new_pool_counts_all_as_good(self):
        line = Watched([9, ROT, 0, 0, 0], [10, SICK, 0])
        told = line.ask(begin(16, [0, 1]), state(0, 2), state(1, 1), begin(16, [1, 0]), read(0, []), write(1, [1]),
                        sync())
        self.assertEqual(told[4:], [found([]), [0], [0]])
        self.assertEqual([ask[:2] for ask in line.asks()], [("read", 1), ("write", 1), ("write", 0), ("flush", 1),
                                                            ("flush", 0)])

    def test_refused_begin_leaves_it(self):
        line = Watched()
        line.ask(begin(16, [0, 1]), state(0, 2), begin(15, [0, 1]), read(0, []))
        self.assertEqual(line.asks(), [("read", 1, 8)])


if __name__ == "__main__":
    unittest.main()
