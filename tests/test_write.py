"""Promise 3: write."""

import unittest

from stretchcache.pool import OUT
from tests.lines import (ALL, FAIL, GOES, OFF, Watched, barrier, begin, devices, found, marked, read, run, sync, write,
                         writes)


def puts(number, places, mark=1, first=8):
    return [("write", number, first + place, marked(place, mark)) for place in places]


class Plain(unittest.TestCase):
    def test_written_later(self):
        line = Watched()
        self.assertEqual(line.ask(begin(16, [0]), write(3, [1])), [[8], [0]])
        self.assertEqual(line.asks(), [])
        self.assertEqual(line.dirty_keys(), [(0, 3)])

    def test_place_that_there_is_not(self):
        told = run(devices(), begin(16, [0], [1]), write(15, [1]), write(16, [1]), write(ALL, [1]))
        self.assertEqual(told, [[16], [0], [-1], [-1]])

    def test_how_many_bytes(self):
        told = run(devices(), begin(16, [0]), write(0, []), write(0, [1] * 1024), write(0, [1] * 1025),
                   write(1, [0] * 1025), write(1, [0] * 2000), read(0, [1] * 1024))
        self.assertEqual(told[1:], [[0], [0], [-1], [-1], [-1], found([1] * 1024)])

    def test_what_is_a_byte(self):
        told = run(devices(), begin(16, [0]), write(0, [255]), write(0, [256]), write(0, [1, 2, ALL]),
                   read(0, [255]))
        self.assertEqual(told[1:], [[0], [-1], [-1], found([255])])

    def test_refused_write_leaves_all_as_it_was(self):
        line = Watched()
        line.ask(begin(16, [0]), write(1, [1]), sync(), write(2, [2]))
        line.asks()
        self.assertEqual(line.ask(write(1, [256]), write(2, [256]), write(8, [])), [[-1]] * 3)
        self.assertEqual(line.clean_places(), [1])
        self.assertEqual(line.ask(read(1, [1]), read(2, [2])), [found([1]), found([2])])
        self.assertEqual(line.asks(), [])


class Again(unittest.TestCase):
    def test_same_stretch_takes_its_place_there(self):
        line = Watched()
        line.ask(begin(16, [0]), *writes([1, 2, 3]), write(2, [9]))
        self.assertEqual(line.dirty_keys(), [(0, 1), (0, 2), (0, 3)])
        self.assertEqual(line.ask(read(2, [9]), sync()), [found([9]), [0]])
        self.assertEqual([ask[2:] for ask in line.asks() if ask[0] == "write"],
                         [(9, marked(1)), (10, [9]), (11, marked(3))])

    def test_later_stretch_has_its_own(self):
        line = Watched()
        line.ask(begin(16, [0]), write(1, [1]), barrier(), write(1, [2]), write(1, [3]))
        self.assertEqual(line.dirty_keys(), [(0, 1), (1, 1)])
        line.ask(sync())
        self.assertEqual(line.asks(), [("write", 0, 9, [1]), ("flush", 0), ("write", 0, 9, [3]), ("flush", 0)])

    def test_clean_block_of_the_place_goes(self):
        line = Watched()
        line.ask(begin(16, [0]), *writes([1, 2]), sync(), write(1, [9]))
        self.assertEqual(line.clean_places(), [2])
        self.assertEqual(line.ask(read(1, [9]), read(1, marked(1))), [found([9]), [-2]])


class Full(unittest.TestCase):
    def test_sixty_four_ask_nobody(self):
        line = Watched()
        self.assertEqual(line.ask(begin(128, [0]), *writes(range(64)))[1:], [[0]] * 64)
        self.assertEqual(line.asks(), [])

    def test_first_clean_block_goes(self):
        line = Watched()
        line.ask(begin(128, [0]), *writes(range(3)), sync(), *writes(range(10, 71)))
        line.asks()
        self.assertEqual(line.ask(write(80, [1])), [[0]])
        self.assertEqual(line.clean_places(), [1, 2])
        self.assertEqual(line.asks(), [])
        self.assertEqual(len(line.dirty_keys()), 62)

    def test_own_clean_block_makes_the_room(self):
        line = Watched()
        line.ask(begin(128, [0]), *writes(range(3)), sync(), *writes(range(10, 71)), write(2, [5]))
        self.assertEqual(line.clean_places(), [0, 1])
        self.assertEqual(line.dirty_keys()[-1], (0, 2))

    def test_own_dirty_block_needs_no_room(self):
        line = Watched()
        line.ask(begin(128, [0]), *writes(range(64)))
        self.assertEqual(line.ask(write(5, [5])), [[0]])
        self.assertEqual(line.asks(), [])
        self.assertEqual(len(line.dirty_keys()), 64)

    def test_oldest_stretch_goes_out(self):
        line = Watched()
        line.ask(begin(128, [0]), *writes(range(2)), barrier(), *writes(range(2, 5)), barrier(), *writes(range(5, 64)))
        self.assertEqual(line.asks(), [])
        self.assertEqual(line.ask(write(80, [1])), [[0]])
        self.assertEqual(line.asks(), puts(0, range(2)) + [("flush", 0)])
        self.assertEqual(line.clean_places(), [1])
        self.assertEqual(line.dirty_keys()[0], (1, 2))
        self.assertEqual(line.dirty_keys()[-1], (2, 80))
        self.assertEqual(len(line.dirty_keys()), 63)

    def test_stretch_that_is_now_goes_out(self):
        line = Watched()
        line.ask(begin(128, [0]), *writes(range(64)))
        self.assertEqual(line.ask(write(64, [1]), write(65, [1]), barrier()), [[0], [0], [1]])
        self.assertEqual(line.asks(), puts(0, range(64)) + [("flush", 0)])
        self.assertEqual(line.clean_places(), list(range(2, 64)))
        self.assertEqual(line.dirty_keys(), [(0, 64), (0, 65)])

    def test_own_block_that_came_clean_goes(self):
        line = Watched()
        line.ask(begin(128, [0]), *writes(range(63)), barrier(), write(100, [1]))
        self.assertEqual(line.ask(write(7, [7])), [[0]])
        self.assertEqual(line.clean_places(), [place for place in range(63) if place != 7])
        self.assertEqual(line.dirty_keys(), [(1, 100), (1, 7)])

    def test_written_again_in_a_later_stretch_makes_room_by_itself(self):
        line = Watched()
        line.ask(begin(128, [0]), *writes(range(2)), barrier(), *writes([1], 2), *writes(range(3, 64)))
        self.assertEqual(len(line.dirty_keys()), 64)
        self.assertEqual(line.ask(write(80, [1])), [[0]])
        self.assertEqual(line.clean_places(), [0])
        self.assertEqual(len(line.dirty_keys()), 63)
        line.asks()
        self.assertEqual(line.ask(read(1, marked(1, 2))), [found(marked(1, 2))])
        self.assertEqual(line.asks(), [])

    def test_write_that_is_not_written(self):
        line = Watched([3, FAIL], [4, FAIL])
        line.ask(begin(128, [0]), *writes(range(64)))
        self.assertEqual(line.ask(write(64, [1])), [[-5]])
        self.assertEqual(line.asks(), puts(0, [0, 1, 2, 3, 3]))
        self.assertEqual(line.dirty_keys(), [(0, place) for place in range(64)])
        self.assertEqual(line.clean_places(), [])
        self.assertEqual(line.ask(read(3, marked(3)), read(64, [])), [found(marked(3)), [-2]])
        self.assertEqual(line.asks(), [])

    def test_flush_that_fails(self):
        line = Watched([64, FAIL], [65, FAIL])
        line.ask(begin(128, [0]), *writes(range(64)))
        self.assertEqual(line.ask(write(64, [1])), [[-5]])
        self.assertEqual(line.asks()[64:], [("flush", 0)] * 2)
        self.assertEqual(len(line.dirty_keys()), 64)

    def test_power_goes_when_the_oldest_goes_out(self):
        told = run(devices([5, OFF, ALL, ALL]), begin(128, [0]), *writes(range(64)), write(64, [1]), write(64, [1]),
                   begin(128, [0]), read(4, marked(4)), read(5, marked(5)), read(5, []))
        self.assertEqual(told[65:], [[-100], [-9], [120], found(marked(4)), [-2], found([])])


class Failed(unittest.TestCase):
    def failed(self):
        line = Watched([0, GOES])
        self.assertEqual(line.ask(begin(16, [0], [1]), write(0, [1]), write(1, [1]), sync())[3:], [[-5]])
        self.assertEqual(line.state(0), OUT)
        line.asks()
        return line

    def test_nothing_more_is_written(self):
        line = self.failed()
        self.assertEqual(line.ask(write(0, [2]), write(1, [2]), write(2, [2])), [[-5]] * 3)
        self.assertEqual(line.ask(read(0, [1]), read(1, [1]), read(0, [2])), [found([1]), found([1]), [-2]])
        self.assertEqual(line.dirty_keys(), [(0, 0), (0, 1)])
        self.assertEqual(line.asks(), [])

    def test_refused_ahead_of_not_written(self):
        line = self.failed()
        self.assertEqual(line.ask(write(16, [2]), write(1, [256]), write(1, [0] * 1025)), [[-1]] * 3)

    def test_clean_block_stays(self):
        line = Watched([2, FAIL], [3, FAIL])
        line.ask(begin(16, [0]), write(0, [1]), sync(), write(1, [1]), sync())
        self.assertEqual(line.ask(write(0, [2])), [[-5]])
        self.assertEqual(line.clean_places(), [0])

    def test_still_reads_from_the_pool(self):
        line = self.failed()
        self.assertEqual(line.ask(read(3, []), read(2, [])), [found([]), [-2]])
        self.assertEqual(line.asks(), [("read", 1, 9)])

    def test_begin_makes_a_new_one(self):
        line = self.failed()
        self.assertEqual(line.ask(begin(16, [1]), write(0, [2]), sync()), [[8], [0], [0]])


if __name__ == "__main__":
    unittest.main()
