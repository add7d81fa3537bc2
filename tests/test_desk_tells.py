import unittest

from helper import (
    EMERGENCY, GUEST, MOST, SHUTTING, STAFF, TOP, ask, begin, card, check_changes_nothing, check_refused, come, copy,
    day, desk, everywhere, free, kept, last_of, leave, longer, lost, need, recall, room, shut, staff, stay,
)

# Day 10; room 0, in zone 5, has a stay till 20; room 1, in zone 7, none; one card was made.
BEFORE = [begin(), room(5), room(7), day(10), come(0, 20)]


class StayTest(unittest.TestCase):
    def test_its_last_day_number_and_zone(self):
        check_changes_nothing(self, [20, 1, 5], BEFORE, stay(0))
        self.assertEqual(last_of(*BEFORE, lost(0), lost(0), stay(0)), [20, 3, 5])
        self.assertEqual(last_of(*BEFORE, longer(0, 33), stay(0)), [33, 1, 5])
        self.assertEqual(last_of(*BEFORE, shut(1), come(1, MOST), stay(1)), [MOST, 2, 7])

    def test_a_last_day_of_0(self):
        self.assertEqual(last_of(begin(), room(0), come(0, 0), stay(0)), [0, 1, 0])

    def test_no_such_room(self):
        self.assertEqual(last_of(begin(), stay(0)), [-2])
        for place in (2, 3, 64, MOST, TOP):
            check_refused(self, -2, BEFORE, stay(place))

    def test_no_stay(self):
        check_refused(self, -6, BEFORE, stay(1))
        check_refused(self, -6, BEFORE + [leave(0)], stay(0))
        check_refused(self, -6, BEFORE + [shut(1)], stay(1))

    def test_over_by_day_and_by_all(self):
        for over in (day, everywhere):
            self.assertEqual(last_of(*BEFORE, over(20), stay(0)), [20, 1, 5])
            check_refused(self, -6, BEFORE + [over(21)], stay(0))
            self.assertEqual(last_of(*BEFORE, over(21), come(0, 25), stay(0)), [25, 2, 5])


class FreeTest(unittest.TestCase):
    def test_with_no_room(self):
        check_changes_nothing(self, [0], [begin()], free())

    def test_with_all_free(self):
        for count in (1, 2, 3, 63, 64):
            rooms = [room(n % 8) for n in range(count)]
            self.assertEqual(last_of(begin(), *rooms, free()), [count] + list(range(count)))

    def test_with_none_free(self):
        for count in (1, 3, 64):
            rooms = [room(0)] * count
            stays = [come(place, 4) for place in range(count)]
            check_changes_nothing(self, [0], [begin()] + rooms + stays, free())

    def test_rising_whatever_became_free_first(self):
        before = [begin()] + [room(0)] * 5 + [come(place, 9) for place in range(5)]
        self.assertEqual(last_of(*before, leave(4), leave(0), leave(3), free()), [3, 0, 3, 4])

    def test_a_room_that_was_shut_is_free(self):
        check_changes_nothing(self, [1, 1], BEFORE + [shut(1)], free())

    def test_over_by_day_and_by_all(self):
        before = [begin()] + [room(0)] * 4 + [come(0, 3), come(1, 5), come(3, 4)]
        for over in (day, everywhere):
            told = ask(*before, free(), over(3), free(), over(4), free(), over(5), free(), over(6), free())
            self.assertEqual(told[len(before)::2], [[1, 2], [1, 2], [2, 0, 2], [3, 0, 2, 3], [4, 0, 1, 2, 3]])


class DeskTest(unittest.TestCase):
    def test_with_no_room(self):
        check_changes_nothing(self, [0, 0, 0, 0, 0], [begin()], desk())

    def test_rooms_stays_day_round_and_cards(self):
        check_changes_nothing(self, [2, 1, 10, 0, 1], BEFORE, desk())
        told = ask(
            *BEFORE, room(0), desk(), recall(), desk(), come(1, 12), desk(), copy(1), desk(), staff(1, 12), desk(),
            need(12), desk(), leave(0), desk(), shut(0), desk(), lost(1), desk(), longer(1, 13), desk(),
        )
        self.assertEqual(told[len(BEFORE) + 1::2], [
            [3, 1, 10, 0, 1], [3, 1, 10, 1, 1], [3, 2, 10, 1, 2], [3, 2, 10, 1, 3], [3, 2, 10, 1, 4],
            [3, 2, 10, 1, 5], [3, 1, 10, 1, 5], [3, 1, 10, 1, 6], [3, 1, 10, 1, 7], [3, 1, 10, 1, 8],
        ])

    def test_with_all_free_and_with_none_free(self):
        rooms = [room(n % 8) for n in range(64)]
        stays = [come(place, 4) for place in range(64)]
        self.assertEqual(last_of(begin(), *rooms, desk()), [64, 0, 0, 0, 0])
        self.assertEqual(last_of(begin(), *rooms, *stays, desk()), [64, 64, 0, 0, 64])

    def test_over_by_day_and_by_all(self):
        for over in (day, everywhere):
            told = ask(*BEFORE, come(1, 15), over(15), desk(), over(16), desk(), over(MOST), desk())
            self.assertEqual(told[-5::2], [[2, 2, 15, 0, 2], [2, 1, 16, 0, 2], [2, 0, MOST, 0, 2]])

    def test_all_cards_count_not_the_kept_ones_alone(self):
        for count in (0, 1, 63, 64, 65, 300):
            self.assertEqual(last_of(*BEFORE, *[copy(0)] * count, desk()), [2, 1, 10, 0, 1 + count])

    def test_what_is_refused_does_not_count(self):
        refused = [room(8), day(9), come(0, 20), come(1, 9), copy(1), lost(1), longer(0, 19), leave(1), shut(0),
                   staff(0, 20), need(9)]
        self.assertEqual(last_of(*BEFORE, *refused, desk()), [2, 1, 10, 0, 1])


class KeptCardTest(unittest.TestCase):
    def test_with_so_many_made(self):
        for made in (0, 1, 2, 63, 64, 65, 66, 130):
            before = [begin(), staff(1, 0)][:1 + min(made, 1)] + [need(5)] * (made - 1)
            for k in (0, 1, 62, 63, 64, 65, MOST, TOP):
                if k >= min(made, 64):
                    check_refused(self, -6, before, kept(k))
                    continue
                serial = made - 1 - k
                said = (EMERGENCY, 255, 0, 5, serial) if serial else (STAFF, 1, 0, 0, 0)
                check_changes_nothing(self, [16] + card(*said), before, kept(k))

    def test_of_each_call_that_makes_one_the_last_first(self):
        calls = [copy(0), recall(), lost(0), longer(0, 30), come(1, 9), shut(1), staff(9, 12), need(11), free()]
        told = ask(*BEFORE, *calls, *[kept(k) for k in range(8)])
        self.assertEqual(told[-8:], [
            [16] + card(EMERGENCY, 255, 1, 11, 6), [16] + card(STAFF, 9, 1, 12, 5), [16] + card(SHUTTING, 1, 1, 10, 4),
            [16] + card(GUEST, 0, 2, 30, 3), [16] + card(GUEST, 0, 2, 20, 2), [16] + card(GUEST, 0, 1, 20, 1),
            [16] + card(GUEST, 0, 1, 20, 0), [-6],
        ])

    def test_it_is_what_was_answered_when_it_was_made(self):
        told = ask(*BEFORE, staff(255, 300), kept(0))
        self.assertEqual(told[-1], [16] + told[-2][1:])

    def test_no_room_and_no_door_is_needed(self):
        self.assertEqual(last_of(begin(), need(0), kept(0)), [16] + card(EMERGENCY, 255, 0, 0, 0))


if __name__ == "__main__":
    unittest.main()
