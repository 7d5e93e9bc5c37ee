"""Devices and the script, asked one by one."""

import unittest

from stretchcache.devices import Devices, PowerGone
from tests.lines import ALL, FAIL, GOES, OFF, ROT, SICK, SIZES, TAKEN


def with_script(*script, sizes=SIZES):
    return Devices(sizes, list(script))


class Plain(unittest.TestCase):
    def test_blocks_are_zeros_at_first(self):
        self.assertEqual(with_script().read(0, 127), [])

    def test_write_is_read_without_its_last_zeros(self):
        asked = with_script()
        self.assertTrue(asked.write(3, 5, [1, 0, 2, 0, 0]))
        self.assertEqual(asked.read(3, 5), [1, 0, 2])
        self.assertEqual(asked.read(2, 5), [])

    def test_write_is_sure_after_flush_alone(self):
        asked = with_script()
        asked.write(0, 1, [7])
        asked.write(0, 1, [8])
        self.assertEqual(asked.each[0].sure_block(1), [])
        self.assertEqual(asked.read(0, 1), [8])
        self.assertTrue(asked.flush(0))
        self.assertEqual(asked.each[0].sure_block(1), [8])
        self.assertEqual(asked.each[0].on_way, [])

    def test_flush_is_of_one_device(self):
        asked = with_script()
        asked.write(0, 1, [7])
        asked.write(1, 1, [7])
        asked.flush(0)
        self.assertEqual(asked.each[1].sure_block(1), [])

    def test_block_that_it_has_not(self):
        asked = with_script(sizes=[4, 0, 9, 9, 9, 9, 9, 9])
        self.assertIsNone(asked.read(0, 4))
        self.assertFalse(asked.write(0, 4, [1]))
        self.assertEqual(asked.read(0, 3), [])
        self.assertTrue(asked.write(0, 3, [1]))
        self.assertIsNone(asked.read(1, 0))
        self.assertFalse(asked.write(1, 0, [1]))
        self.assertTrue(asked.flush(1))

    def test_what_is_no_block_fails(self):
        asked = with_script()
        self.assertFalse(asked.write(0, 1, [0] * 1025))
        self.assertFalse(asked.write(0, 1, [256]))
        self.assertEqual(asked.each[0].on_way, [])
        self.assertTrue(asked.write(0, 1, [255] * 1024))


class Counting(unittest.TestCase):
    def test_asks_are_counted_over_all_devices_and_kinds(self):
        asked = with_script([3, FAIL])
        self.assertTrue(asked.write(0, 1, [1]))
        self.assertEqual(asked.read(1, 1), [])
        self.assertTrue(asked.flush(2))
        self.assertIsNone(asked.read(3, 1))
        self.assertEqual(asked.read(3, 1), [])

    def test_failing_asks_count_too(self):
        asked = with_script([1, FAIL], sizes=[4] * 8)
        self.assertIsNone(asked.read(0, 4))
        self.assertFalse(asked.flush(0))
        self.assertTrue(asked.flush(0))

    def test_first_entry_of_an_ask_counts(self):
        asked = with_script([1, FAIL], [0, SICK, 3], [0, FAIL], [0, GOES], [1, GOES])
        self.assertEqual(asked.read(0, 1), [])
        self.assertIsNone(asked.read(0, 1))
        self.assertEqual(asked.read(0, 1), [])
        self.assertIsNone(asked.read(0, 3))


class Failing(unittest.TestCase):
    def test_fail(self):
        asked = with_script([1, FAIL], [2, FAIL], [3, FAIL])
        asked.write(0, 1, [1])
        self.assertIsNone(asked.read(0, 1))
        self.assertFalse(asked.write(0, 1, [2]))
        self.assertFalse(asked.flush(0))
        self.assertEqual(asked.each[0].sure_block(1), [])
        self.assertEqual(asked.read(0, 1), [1])

    def test_taken(self):
        asked = with_script([1, TAKEN], [2, TAKEN], [3, TAKEN])
        asked.write(0, 1, [1])
        self.assertIsNone(asked.read(0, 1))
        self.assertFalse(asked.write(0, 1, [2]))
        self.assertFalse(asked.flush(0))
        self.assertEqual(asked.each[0].sure_block(1), [])
        self.assertEqual(asked.read(0, 1), [2])

    def test_taken_write_of_a_block_that_it_has_not(self):
        asked = with_script([0, TAKEN], sizes=[4] * 8)
        self.assertFalse(asked.write(0, 4, [1]))
        self.assertEqual(asked.each[0].on_way, [])

    def test_taken_write_leaves_the_block_sick(self):
        asked = with_script([0, SICK, 1], [1, TAKEN])
        asked.read(0, 0)
        self.assertFalse(asked.write(0, 1, [2]))
        self.assertIsNone(asked.read(0, 1))
        self.assertEqual(asked.each[0].block_now(1), [2])

    def test_goes_for_good(self):
        asked = with_script([1, GOES], [3, TAKEN])
        asked.write(0, 1, [1])
        self.assertIsNone(asked.read(0, 1))
        self.assertFalse(asked.write(0, 1, [2]))
        self.assertFalse(asked.write(0, 1, [3]))
        self.assertFalse(asked.flush(0))
        self.assertIsNone(asked.read(0, 1))
        self.assertEqual(asked.each[0].block_now(1), [1])
        self.assertEqual(asked.read(1, 1), [])

    def test_goes_at_a_write_and_at_a_flush(self):
        asked = with_script([0, GOES], [2, GOES])
        self.assertFalse(asked.write(0, 1, [1]))
        asked.write(1, 1, [1])
        self.assertFalse(asked.flush(1))
        self.assertEqual(asked.each[0].on_way, [])
        self.assertEqual(asked.each[1].sure_block(1), [])


class Sick(unittest.TestCase):
    def test_sick_block_fails_till_it_is_written(self):
        asked = with_script([1, SICK, 1])
        asked.write(0, 1, [1])
        self.assertIsNone(asked.read(0, 1))
        self.assertIsNone(asked.read(0, 1))
        self.assertEqual(asked.read(0, 2), [])
        self.assertEqual(asked.read(1, 1), [])
        self.assertTrue(asked.write(0, 1, [2]))
        self.assertEqual(asked.read(0, 1), [2])

    def test_sick_at_its_own_write(self):
        asked = with_script([0, SICK, 1])
        self.assertTrue(asked.write(0, 1, [1]))
        self.assertEqual(asked.read(0, 1), [1])

    def test_sick_at_a_flush(self):
        asked = with_script([1, SICK, 1])
        asked.write(0, 1, [1])
        self.assertTrue(asked.flush(0))
        self.assertEqual(asked.each[0].sure_block(1), [1])
        self.assertIsNone(asked.read(0, 1))

    def test_failed_write_leaves_the_block_sick(self):
        asked = with_script([0, SICK, 1], [1, FAIL])
        asked.flush(0)
        self.assertFalse(asked.write(0, 1, [1]))
        self.assertIsNone(asked.read(0, 1))

    def test_sick_block_that_there_is_not(self):
        asked = with_script([0, SICK, ALL])
        self.assertEqual(asked.read(0, 0), [])


class Rot(unittest.TestCase):
    def test_rot_of_a_sure_block(self):
        asked = with_script([2, ROT, 1, 1, 256 + 9])
        asked.write(0, 1, [1, 2, 3])
        asked.flush(0)
        self.assertEqual(asked.read(0, 1), [1, 9, 3])
        self.assertEqual(asked.read(1, 1), [])

    def test_rot_makes_sure_what_is_on_its_way(self):
        asked = with_script([2, ROT, 1, 3, 5])
        asked.write(0, 1, [1])
        asked.write(0, 2, [2])
        self.assertEqual(asked.read(0, 1), [1, 0, 0, 5])
        self.assertEqual(asked.each[0].on_way, [])
        self.assertEqual(asked.each[0].sure_block(1), [1, 0, 0, 5])
        self.assertEqual(asked.each[0].sure_block(2), [2])

    def test_rot_of_one_device_alone(self):
        asked = with_script([2, ROT, 1, 0, 5])
        asked.write(0, 1, [1])
        asked.write(1, 1, [1])
        asked.flush(0)
        self.assertEqual(asked.each[1].sure_block(1), [])
        self.assertEqual(asked.read(1, 1), [1])

    def test_rot_to_zero_and_of_the_last_byte(self):
        asked = with_script([1, ROT, 1, 1, 512], [2, ROT, 1, 1023, 255])
        asked.write(0, 1, [1, 2])
        self.assertEqual(asked.read(0, 1), [1])
        self.assertEqual(asked.read(0, 1), [1] + [0] * 1022 + [255])

    def test_rot_comes_ahead_of_the_write(self):
        asked = with_script([0, ROT, 1, 0, 5])
        self.assertTrue(asked.write(0, 1, [1]))
        self.assertEqual(asked.read(0, 1), [1])
        self.assertEqual(asked.each[0].sure_block(1), [5])

    def test_rot_of_a_byte_that_there_is_not(self):
        asked = with_script([1, ROT, 1, 1024, 5])
        asked.write(0, 1, [1])
        self.assertEqual(asked.read(0, 1), [1])
        self.assertEqual(asked.each[0].sure_block(1), [1])

    def test_rot_of_a_block_that_there_is_not(self):
        asked = with_script([1, ROT, 4, 0, 5], [2, ROT, ALL, ALL, ALL], sizes=[4] * 8)
        asked.write(0, 1, [1])
        self.assertTrue(asked.flush(0))
        self.assertEqual(asked.each[0].sure, {1: [1]})
        self.assertIsNone(asked.read(0, 4))
        self.assertEqual(asked.each[0].sure, {1: [1]})

    def test_rot_of_a_device_that_is_gone(self):
        asked = with_script([1, GOES], [2, ROT, 1, 0, 5])
        asked.write(0, 1, [1, 1])
        asked.read(0, 1)
        self.assertIsNone(asked.read(0, 1))
        self.assertEqual(asked.each[0].sure_block(1), [5, 1])

    def test_rot_leaves_the_block_sick(self):
        asked = with_script([0, SICK, 1], [1, ROT, 1, 0, 5])
        asked.read(0, 1)
        self.assertIsNone(asked.read(0, 1))


class Power(unittest.TestCase):
    def off(self, asked, number=0):
        with self.assertRaises(PowerGone):
            asked.flush(number)

    def test_mask_says_which_writes_arrive(self):
        asked = with_script([4, OFF, 0b1010, 1024])
        for k in range(4):
            asked.write(0, k, [k + 1])
        self.off(asked)
        self.assertEqual(asked.each[0].sure, {1: [2], 3: [4]})
        self.assertEqual(asked.each[0].on_way, [])
        self.assertEqual(asked.read(0, 0), [])

    def test_last_that_arrives_has_its_first_bytes_alone(self):
        asked = with_script([5, OFF, 0b111, 2])
        asked.write(0, 1, [9, 9, 9, 9])
        asked.flush(0)
        asked.write(0, 2, [1, 1, 1])
        asked.write(0, 1, [1, 0, 1])
        asked.write(1, 1, [1, 1, 1])
        self.off(asked)
        self.assertEqual(asked.each[0].sure_block(2), [1, 1, 1])
        self.assertEqual(asked.each[0].sure_block(1), [1, 0, 9, 9])
        self.assertEqual(asked.each[1].sure_block(1), [1, 1])

    def test_last_that_arrives_isnt_the_last_on_its_way(self):
        asked = with_script([3, OFF, 0b011, 1])
        for k in range(3):
            asked.write(0, k, [5, 5])
        self.off(asked)
        self.assertEqual(asked.each[0].sure_block(0), [5, 5])
        self.assertEqual(asked.each[0].sure_block(1), [5])
        self.assertEqual(asked.each[0].sure_block(2), [])

    def test_others_stay_as_they_are_when_the_last_arrives(self):
        asked = with_script([2, OFF, 0b11, 1])
        asked.write(0, 1, [1, 2, 3])
        asked.write(0, 1, [4, 5, 6])
        self.off(asked)
        self.assertEqual(asked.each[0].sure_block(1), [4, 2, 3])

    def test_no_bytes_and_more_than_there_are(self):
        for count, sure in ((0, [9, 9]), (1, [1, 9]), (1023, [1] * 1023), (1024, [1] * 1024), (ALL, [1] * 1024)):
            asked = with_script([3, OFF, 1, count])
            asked.write(0, 1, [9, 9])
            asked.flush(0)
            asked.write(0, 1, [1] * 1024)
            self.off(asked)
            self.assertEqual(asked.each[0].sure_block(1), sure)

    def test_rows_of_more_than_64_writes(self):
        asked = with_script([130, OFF, 1 + 2 ** 63, 1024], sizes=[200] * 8)
        for k in range(130):
            asked.write(0, k, [1])
        self.off(asked)
        self.assertEqual(sorted(asked.each[0].sure), [0, 63, 64, 127, 128])

    def test_all_devices_lose_it_and_the_asked_one_writes_nothing(self):
        asked = with_script([3, GOES], [4, OFF, ALL, ALL])
        asked.write(0, 1, [1])
        asked.write(1, 1, [2])
        asked.write(2, 1, [3])
        asked.read(2, 1)
        with self.assertRaises(PowerGone):
            asked.write(0, 2, [4])
        self.assertEqual([device.sure for device in asked.each[:3]], [{1: [1]}, {1: [2]}, {1: [3]}])
        self.assertEqual([device.on_way for device in asked.each], [[]] * 8)
        self.assertIsNone(asked.read(2, 1))
        self.assertEqual(asked.read(0, 2), [])

    def test_off_at_a_read_and_sick_blocks_stay(self):
        asked = with_script([0, SICK, 1], [1, OFF, ALL, ALL])
        asked.flush(0)
        with self.assertRaises(PowerGone):
            asked.read(1, 1)
        self.assertIsNone(asked.read(0, 1))

    def test_off_is_an_ask_that_counts(self):
        asked = with_script([0, OFF, 0, 0], [1, FAIL])
        self.off(asked)
        self.assertFalse(asked.flush(0))
        self.assertTrue(asked.flush(0))

    def test_off_at_a_device_that_is_gone(self):
        asked = with_script([0, GOES], [1, OFF, 0, 0])
        self.assertFalse(asked.flush(0))
        self.off(asked)


if __name__ == "__main__":
    unittest.main()
