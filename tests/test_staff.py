import unittest

from helper import (
    EMERGENCY, MOST, STAFF, TOP, ask, begin, check_refused, day, last_of, made, need, recall, room,
    staff,
)

BEFORE = [begin(), room(0), day(10)]


class StaffTest(unittest.TestCase):
    def test_a_card_of_these_zones(self):
        for zones in (1, 2, 128, 254, 255):
            self.assertEqual(last_of(*BEFORE, staff(zones, 15)), made(STAFF, zones, 0, 15, 0))

    def test_zones_that_are_none(self):
        for zones in (0, 256, 257, 511, MOST, TOP):
            check_refused(self, -22, BEFORE, staff(zones, 15))
            check_refused(self, -22, BEFORE, staff(zones, 9))

    def test_the_last_day(self):
        for last in (0, 9, MOST + 1, TOP):
            check_refused(self, -22, BEFORE, staff(1, last))
        self.assertEqual(last_of(*BEFORE, staff(1, 10)), made(STAFF, 1, 0, 10, 0))
        self.assertEqual(last_of(*BEFORE, staff(1, MOST)), made(STAFF, 1, 0, MOST, 0))

    def test_no_room_is_needed(self):
        self.assertEqual(last_of(begin(), staff(255, 0)), made(STAFF, 255, 0, 0, 0))


class RecallTest(unittest.TestCase):
    def test_the_round_is_one_more(self):
        told = ask(*BEFORE, recall(), recall(), staff(4, 20), recall(), staff(4, 20), need(11))
        self.assertEqual(told[3:5], [[1], [2]])
        self.assertEqual(told[5:], [made(STAFF, 4, 2, 20, 0), [3], made(STAFF, 4, 3, 20, 1), made(4, 255, 3, 11, 2)])

    def test_many_rounds(self):
        told = ask(begin(), *[recall()] * 300, staff(1, 0))
        self.assertEqual(told[1:301], [[n] for n in range(1, 301)])
        self.assertEqual(told[301], made(STAFF, 1, 300, 0, 0))


class NeedTest(unittest.TestCase):
    def test_an_emergencys_card(self):
        told = ask(*BEFORE, need(15), recall(), need(16))
        self.assertEqual(told[3:], [made(EMERGENCY, 255, 0, 15, 0), [1], made(EMERGENCY, 255, 1, 16, 1)])

    def test_the_last_day(self):
        for last in (0, 9, MOST + 1, TOP):
            check_refused(self, -22, BEFORE, need(last))
        self.assertEqual(last_of(*BEFORE, need(10)), made(EMERGENCY, 255, 0, 10, 0))
        self.assertEqual(last_of(*BEFORE, need(MOST)), made(EMERGENCY, 255, 0, MOST, 0))


if __name__ == "__main__":
    unittest.main()
