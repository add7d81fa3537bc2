"""The call all, and which days day, doorday and all are the days of."""

import unittest

from helper import (
    GUEST, MOST, TOP, ask, begin, bolt, book, check_refused, come, copy, day, desk, door, doorday, everywhere, hang,
    last_of, recall, room, show, staff, stay,
)

# Desk's day 10; doors' days 0, 15 and 30; stays in the rooms 0 to 2 till 12, 15 and 40; room 3 has no door.
BEFORE = [
    begin(), room(0), room(3), room(7), room(1), day(10), hang(0), hang(1), hang(2), doorday(1, 15), doorday(2, 30),
    come(0, 12), come(1, 15), come(2, 40),
]


def days(*calls):
    """The desk's day and the three doors', behind these calls."""
    told = ask(*BEFORE, *calls, desk(), door(0), door(1), door(2))[-4:]
    return [told[0][2]] + [part[3] for part in told[1:]]


class AllTest(unittest.TestCase):
    def test_doors_whose_day_is_before_at_and_behind(self):
        self.assertEqual(days(), [10, 0, 15, 30])
        self.assertEqual(days(everywhere(10)), [10, 10, 15, 30])
        self.assertEqual(days(everywhere(14)), [14, 14, 15, 30])
        self.assertEqual(days(everywhere(15)), [15, 15, 15, 30])
        self.assertEqual(days(everywhere(16)), [16, 16, 16, 30])
        self.assertEqual(days(everywhere(30)), [30, 30, 30, 30])
        self.assertEqual(days(everywhere(31)), [31, 31, 31, 31])
        self.assertEqual(days(everywhere(MOST)), [MOST] * 4)

    def test_it_does_what_day_does_and_answers_as_it_does(self):
        telling = [desk(), stay(0), stay(1), stay(2), stay(3), copy(0), copy(2), recall(), staff(1, 60)]
        for d in (0, 9, 10, 11, 12, 13, 15, 16, 30, 40, 41, MOST, MOST + 1, TOP):
            self.assertEqual(ask(*BEFORE, everywhere(d), *telling), ask(*BEFORE, day(d), *telling))

    def test_how_many_stays_are_over(self):
        for d, over in ((10, 0), (12, 0), (13, 1), (15, 1), (16, 2), (40, 2), (41, 3), (MOST, 3)):
            self.assertEqual(last_of(*BEFORE, everywhere(d)), [over])
        self.assertEqual(ask(*BEFORE, everywhere(13), everywhere(13), everywhere(50))[-3:], [[1], [0], [2]])

    def test_refused(self):
        for d in (0, 9, MOST + 1, TOP):
            check_refused(self, -22, BEFORE, everywhere(d))
        check_refused(self, -22, BEFORE + [everywhere(20)], everywhere(19))

    def test_before_the_desks_day_it_is_refused_though_a_door_is_behind_it(self):
        # Door 0 has the day 0: before 9, which is before the desk's day.
        self.assertEqual(days(everywhere(9)), [10, 0, 15, 30])

    def test_a_door_ahead_of_it_does_not_refuse(self):
        self.assertEqual(ask(*BEFORE, everywhere(11), doorday(2, 29), doorday(2, 30))[-3:], [[0], [-22], [0]])

    def test_with_no_room_and_no_door(self):
        self.assertEqual(ask(begin(), everywhere(7), desk(), everywhere(6)), [[0], [0], [0, 0, 7, 0, 0], [-22]])

    def test_a_door_hung_behind_it_has_the_day_0(self):
        self.assertEqual(last_of(*BEFORE, everywhere(50), hang(3), door(3)), [0, 3, 1, 0, 0, 0, 0])

    def test_nothing_else_of_a_door_is_changed(self):
        before = BEFORE + [show(0, 2), staff(255, 60), recall(), staff(255, 60), show(0, 0), bolt(0, 1)]
        told = ask(*before, door(0), everywhere(50), door(0), book(0, 0), book(0, 1))
        self.assertEqual(told[-5], [1, 0, 0, 0, 1, 1, 2])
        self.assertEqual(told[-3:], [[1, 0, 0, 50, 1, 1, 2], [2, 1, 4, 0], [GUEST, 1, 0, 0]])

    def test_with_16_doors(self):
        before = [begin()] + [room(0)] * 16 + [hang(n) for n in range(16)] + [doorday(n, n) for n in range(16)]
        told = ask(*before, everywhere(8), *[door(n) for n in range(16)])[-16:]
        self.assertEqual([part[3] for part in told], [8] * 9 + list(range(9, 16)))


class ApartTest(unittest.TestCase):
    def test_day_changes_no_door(self):
        self.assertEqual(days(day(11)), [11, 0, 15, 30])
        self.assertEqual(days(day(MOST)), [MOST, 0, 15, 30])
        doors = [door(0), door(1), door(2), book(0, 0)]
        for d in (10, 16, 31, MOST):
            before = BEFORE + [show(0, 2), bolt(1, 1)]
            self.assertEqual(ask(*before, day(d), *doors)[-4:], ask(*before, *doors)[-4:])

    def test_doorday_changes_neither_the_desk_nor_another_door(self):
        self.assertEqual(days(doorday(0, 60)), [10, 60, 15, 30])
        self.assertEqual(days(doorday(1, 60)), [10, 0, 60, 30])
        self.assertEqual(days(doorday(2, 60)), [10, 0, 15, 60])
        told = ask(*BEFORE, doorday(0, 60), desk(), stay(0), stay(1), stay(2), day(10))
        self.assertEqual(told[-5:], [[4, 3, 10, 0, 3], [12, 1, 0], [15, 1, 3], [40, 1, 7], [0]])


if __name__ == "__main__":
    unittest.main()
