"""The cases in which houses of doors usually break."""

import unittest

from helper import (
    EMERGENCY, GUEST, ask, begin, bolt, book, check_refused, come, copy, day, door, doorday, everywhere, hang, last_of,
    leave, longer, lost, need, recall, room, show, shut, staff, whose, would, kept,
)

# Rooms 0 and 1 in the zones 0 and 1, each with its door.
HOUSE = [begin(), room(0), room(1), hang(0), hang(1)]


def answers_of(before, *calls):
    return [part[0] for part in ask(*before, *calls)[-len(calls):]]


class LostCardTest(unittest.TestCase):
    def test_shown_behind_its_copy(self):
        # 0 is the card that replaces the lost one, 1 the lost one.
        before = HOUSE + [come(0, 9), lost(0)]
        self.assertEqual(answers_of(before, show(0, 0), show(0, 1), show(0, 0)), [1, -17, 1])

    def test_shown_ahead_of_its_copy_it_still_opens(self):
        before = HOUSE + [come(0, 9), lost(0)]
        self.assertEqual(answers_of(before, show(0, 1), show(0, 0), show(0, 1)), [1, 1, -17])

    def test_a_plain_copy_opens_as_the_first_does(self):
        before = HOUSE + [come(0, 9), copy(0)]
        self.assertEqual(answers_of(before, show(0, 0), show(0, 1), show(0, 0)), [1, 1, 1])

    def test_a_copy_of_the_replacement(self):
        before = HOUSE + [come(0, 9), lost(0), copy(0)]
        self.assertEqual(answers_of(before, show(0, 0), show(0, 1), show(0, 2)), [1, 1, -17])


class StayOverTest(unittest.TestCase):
    def test_the_next_one_not_yet_come_to_the_door(self):
        # The door knows of the old stay alone: its card opens till its last day, or till the next one's was shown.
        before = HOUSE + [come(0, 9), show(0, 0), leave(0), come(0, 20)]
        self.assertEqual(answers_of(before, show(0, 1), show(0, 0), show(0, 1)), [1, 1, -17])

    def test_the_old_card_is_not_good_though_it_opens(self):
        told = ask(*HOUSE, come(0, 9), leave(0))
        old = told[-2][1:]
        self.assertEqual(answers_of(HOUSE + [come(0, 9), leave(0)], whose(old), would(0, old)), [0, 1])

    def test_over_by_the_day(self):
        before = HOUSE + [come(0, 9), everywhere(10), come(0, 20)]
        self.assertEqual(answers_of(before, show(0, 1), show(0, 0), show(0, 1)), [-34, 1, -34])


class ShutLateTest(unittest.TestCase):
    def test_behind_the_next_stays_card_it_is_older(self):
        before = HOUSE + [come(0, 9), leave(0), shut(0), come(0, 9)]
        self.assertEqual(answers_of(before, show(0, 0), show(0, 1), show(0, 0), show(0, 2)), [1, -17, 1, -17])

    def test_ahead_of_the_next_stays_card_that_one_opens(self):
        before = HOUSE + [come(0, 9), leave(0), shut(0), come(0, 9)]
        self.assertEqual(answers_of(before, show(0, 2), show(0, 1), show(0, 2), show(0, 0)), [1, 3, -17, 1])

    def test_on_a_later_day(self):
        before = HOUSE + [come(0, 9), show(0, 0), leave(0), shut(0), doorday(0, 1)]
        self.assertEqual(answers_of(before, show(0, 0), show(0, 1)), [-34, 1])

    def test_at_a_bolted_door(self):
        before = HOUSE + [come(0, 9), leave(0), shut(0), bolt(0, 1)]
        told = ask(*before, show(0, 0), door(0), bolt(0, 0), show(0, 1))
        self.assertEqual(told[-4:], [[3], [1, 0, 0, 0, 2, 0, 1], [0], [-17]])


class DoorsDayTest(unittest.TestCase):
    def test_behind_the_desks(self):
        before = HOUSE + [come(0, 9), day(10)]
        card = last_of(*before, kept(0))[1:]
        self.assertEqual(answers_of(before, whose(card), would(0, card), show(0, 0)), [0, 1, 1])
        self.assertEqual(answers_of(before, doorday(0, 9), show(0, 0), doorday(0, 10), show(0, 0)), [0, 1, 0, -34])
        self.assertEqual(answers_of(before, everywhere(10), show(0, 0)), [0, -34])

    def test_ahead_of_the_desks(self):
        before = HOUSE + [doorday(0, 10), come(0, 9)]
        card = last_of(*before, kept(0))[1:]
        self.assertEqual(answers_of(before, whose(card), would(0, card), longer(0, 10), show(0, 0)), [1, -34, 1, 1])

    def test_the_book_has_the_doors_day(self):
        self.assertEqual(last_of(*HOUSE, come(0, 9), day(5), show(0, 0), book(0, 0)), [GUEST, 1, 0, 0])
        self.assertEqual(last_of(*HOUSE, come(0, 9), doorday(0, 5), show(0, 0), book(0, 0)), [GUEST, 1, 0, 5])


class EmergencyTest(unittest.TestCase):
    def test_it_learns_the_round(self):
        before = HOUSE + [staff(255, 9), need(9), recall(), need(9)]
        self.assertEqual(answers_of(before, show(0, 2), show(0, 0), show(0, 2), show(0, 1)), [2, 4, -17, -17])
        self.assertEqual(last_of(*before, show(0, 0), door(0)), [0, 0, 0, 0, 0, 1, 1])

    def test_at_that_door_alone(self):
        before = HOUSE + [staff(255, 9), recall(), need(9), show(0, 0)]
        self.assertEqual(answers_of(before, show(0, 1), show(1, 1)), [-17, 2])

    def test_it_learns_the_round_and_not_the_number(self):
        before = HOUSE + [recall(), recall(), come(0, 9), need(9)]
        self.assertEqual(answers_of(before, show(0, 0), show(0, 1)), [4, 1])

    def test_at_a_bolted_door(self):
        before = HOUSE + [staff(255, 9), recall(), need(9), bolt(0, 1)]
        told = ask(*before, show(0, 1), show(0, 0), door(0), book(0, 0), show(0, 1))
        self.assertEqual(told[-5:], [[-15], [4], [0, 0, 0, 0, 0, 1, 1], [EMERGENCY, 1, 1, 0], [-17]])


class TwoDoorsTest(unittest.TestCase):
    def test_of_one_room(self):
        check_refused(self, -17, HOUSE, hang(0))
        check_refused(self, -17, HOUSE, hang(1))
        self.assertEqual(answers_of(HOUSE, hang(0), room(0), hang(0), hang(2), hang(2)), [-17, 2, -17, 2, -17])


class LongerTest(unittest.TestCase):
    def test_a_card_made_longer(self):
        # Both have the same number: the first opens till its own last day, the longer one till its.
        before = HOUSE + [come(0, 9), longer(0, 20)]
        self.assertEqual(answers_of(before, show(0, 1), show(0, 0), show(0, 1)), [1, 1, 1])
        before = before + [everywhere(10)]
        self.assertEqual(answers_of(before, show(0, 1), show(0, 0)), [-34, 1])
        self.assertEqual(answers_of(before, everywhere(20), show(0, 0), everywhere(21), show(0, 0)), [0, 1, 1, -34])

    def test_it_does_not_outlive_a_lost_one(self):
        before = HOUSE + [come(0, 9), longer(0, 20), lost(0)]
        self.assertEqual(answers_of(before, show(0, 0), show(0, 1), show(0, 2)), [1, -17, -17])


if __name__ == "__main__":
    unittest.main()
