import unittest

from helper import (
    GUEST, MOST, SHUTTING, TOP, ask, begin, check_refused, come, copy, day, last_of, leave, longer, lost, made,
    recall, room, shut, whose, card,
)

# Day 10; room 0 has a stay till 20, room 1 none; one card was made.
BEFORE = [begin(), room(0), room(7), day(10), come(0, 20)]


class NoSuchRoomTest(unittest.TestCase):
    def test_it_is_refused_first(self):
        for place in (2, 3, 64, 255, MOST, TOP):
            for call in (
                come(place, 15), come(place, 9), come(place, TOP), copy(place), lost(place), longer(place, 25),
                longer(place, TOP), leave(place), shut(place),
            ):
                check_refused(self, -2, BEFORE, call)

    def test_without_any_room(self):
        for call in (come(0, 0), copy(0), lost(0), longer(0, 0), leave(0), shut(0)):
            self.assertEqual(last_of(begin(), call), [-2])


class ComeTest(unittest.TestCase):
    def test_a_guests_card(self):
        self.assertEqual(last_of(*BEFORE), made(GUEST, 0, 1, 20, 0))
        self.assertEqual(last_of(*BEFORE, come(1, 300)), made(GUEST, 1, 1, 300, 1))

    def test_the_number_is_one_more_at_each_stay(self):
        told = ask(*BEFORE, leave(0), come(0, 10), leave(0), come(0, 11))
        self.assertEqual(told[6], made(GUEST, 0, 2, 10, 1))
        self.assertEqual(told[8], made(GUEST, 0, 3, 11, 2))

    def test_the_last_day(self):
        check_refused(self, -22, BEFORE, come(1, 9))
        check_refused(self, -22, BEFORE, come(1, MOST + 1))
        check_refused(self, -22, BEFORE, come(1, TOP))
        self.assertEqual(last_of(*BEFORE, come(1, 10)), made(GUEST, 1, 1, 10, 1))
        self.assertEqual(last_of(*BEFORE, come(1, MOST)), made(GUEST, 1, 1, MOST, 1))

    def test_there_is_a_stay(self):
        check_refused(self, -15, BEFORE, come(0, 10))
        check_refused(self, -15, BEFORE, come(0, 30))
        check_refused(self, -22, BEFORE, come(0, 9))
        check_refused(self, -22, BEFORE, come(0, MOST + 1))

    def test_till_its_last_day_there_is_a_stay(self):
        self.assertEqual(last_of(*BEFORE, day(20), come(0, 20)), [-15])
        self.assertEqual(last_of(*BEFORE, day(21), come(0, 21)), made(GUEST, 0, 2, 21, 1))


class CopyTest(unittest.TestCase):
    def test_the_same_but_for_the_serial_number(self):
        told = ask(*BEFORE, copy(0), copy(0))
        self.assertEqual(told[5:], [made(GUEST, 0, 1, 20, 1), made(GUEST, 0, 1, 20, 2)])

    def test_no_stay(self):
        check_refused(self, -6, BEFORE, copy(1))
        check_refused(self, -6, BEFORE + [leave(0)], copy(0))
        check_refused(self, -6, BEFORE + [day(21)], copy(0))

    def test_of_that_room(self):
        told = ask(*BEFORE, come(1, 12), lost(1), copy(0), copy(1))
        self.assertEqual(told[7:], [made(GUEST, 0, 1, 20, 3), made(GUEST, 1, 2, 12, 4)])


class LostTest(unittest.TestCase):
    def test_the_number_is_one_more(self):
        told = ask(*BEFORE, lost(0), lost(0), copy(0))
        self.assertEqual(told[5:], [made(GUEST, 0, n, 20, serial) for n, serial in ((2, 1), (3, 2), (3, 3))])

    def test_the_lost_card_is_good_no_more(self):
        told = ask(*BEFORE, lost(0), whose(card(GUEST, 0, 1, 20, 0)), whose(card(GUEST, 0, 2, 20, 1)))
        self.assertEqual([part[0] for part in told[6:]], [0, 1])

    def test_no_stay(self):
        check_refused(self, -6, BEFORE, lost(1))
        check_refused(self, -6, BEFORE + [leave(0)], lost(0))
        check_refused(self, -6, BEFORE + [day(21)], lost(0))


class LongerTest(unittest.TestCase):
    def test_till_then_with_the_same_number(self):
        told = ask(*BEFORE, longer(0, 25), copy(0), longer(0, MOST))
        self.assertEqual(told[5:], [made(GUEST, 0, 1, last, n) for last, n in ((25, 1), (25, 2), (MOST, 3))])

    def test_not_before_the_stays_last_day(self):
        check_refused(self, -22, BEFORE, longer(0, 19))
        check_refused(self, -22, BEFORE, longer(0, 0))
        check_refused(self, -22, BEFORE + [longer(0, 25)], longer(0, 24))
        self.assertEqual(last_of(*BEFORE, longer(0, 20)), made(GUEST, 0, 1, 20, 1))

    def test_above_the_last_day_of_all(self):
        check_refused(self, -22, BEFORE, longer(0, MOST + 1))
        check_refused(self, -22, BEFORE, longer(0, TOP))

    def test_no_stay_is_refused_first(self):
        check_refused(self, -6, BEFORE, longer(1, 25))
        check_refused(self, -6, BEFORE, longer(1, 9))
        check_refused(self, -6, BEFORE, longer(1, TOP))
        check_refused(self, -6, BEFORE + [day(21)], longer(0, 30))


class LeaveTest(unittest.TestCase):
    def test_there_is_no_stay_then(self):
        told = ask(*BEFORE, leave(0), leave(0), copy(0), lost(0), longer(0, 30))
        self.assertEqual(told[5:], [[0], [-6], [-6], [-6], [-6]])

    def test_no_stay(self):
        check_refused(self, -6, BEFORE, leave(1))
        check_refused(self, -6, BEFORE + [leave(0)], leave(0))

    def test_that_room_alone(self):
        told = ask(*BEFORE, come(1, 12), leave(1), copy(0), copy(1))
        self.assertEqual(told[6:], [[0], made(GUEST, 0, 1, 20, 2), [-6]])

    def test_it_makes_no_card_and_keeps_the_number(self):
        told = ask(*BEFORE, leave(0), come(0, 20))
        self.assertEqual(told[6], made(GUEST, 0, 2, 20, 1))


class ShutTest(unittest.TestCase):
    def test_a_card_that_shuts(self):
        told = ask(*BEFORE, shut(1), shut(1), leave(0), shut(0))
        self.assertEqual(told[5:7], [made(SHUTTING, 1, 1, 10, 1), made(SHUTTING, 1, 2, 10, 2)])
        self.assertEqual(told[8], made(SHUTTING, 0, 2, 10, 3))

    def test_there_is_a_stay(self):
        check_refused(self, -15, BEFORE, shut(0))
        check_refused(self, -15, BEFORE + [day(20)], shut(0))

    def test_it_makes_no_stay(self):
        told = ask(*BEFORE, shut(1), copy(1), leave(1), come(1, 11), day(10))
        self.assertEqual(told[6:], [[-6], [-6], made(GUEST, 1, 2, 11, 2), [0]])

    def test_when_the_stay_is_over(self):
        self.assertEqual(last_of(*BEFORE, day(21), shut(0)), made(SHUTTING, 0, 2, 21, 1))


class SerialTest(unittest.TestCase):
    def test_each_card_made_counts_and_nothing_else(self):
        told = ask(
            *BEFORE, copy(0), copy(1), lost(0), longer(0, 3), longer(0, 22), recall(), leave(0), leave(0), shut(0),
            whose([]), day(11), come(0, 11),
        )
        serials = [part[0] for part in told if len(part) == 17]
        self.assertEqual(serials, [0, 1, 2, 3, 4, 5])
        self.assertEqual(told[-1], made(GUEST, 0, 4, 11, 5))

    def test_two_bytes_the_lesser_first(self):
        told = ask(*BEFORE, *[copy(0)] * 300)
        self.assertEqual(told[-1], made(GUEST, 0, 1, 20, 300))
        self.assertEqual(told[-1][7:9], [44, 1])


if __name__ == "__main__":
    unittest.main()
