import unittest

from helper import (
    EMERGENCY, GUEST, MOST, STAFF, TOP, ask, begin, bolt, book, card, check_changes_nothing, check_refused, come, copy,
    day, desk, door, doorday, everywhere, hang, kept, last_of, lost, need, recall, room, show, show_to, staff, would,
)

# Desk's day 3, doors' day 0; rooms 0 to 2 in zones 2, 5 and 0; door 0 is of room 1, door 1 of room 0.
BEFORE = [begin(), room(2), room(5), room(0), day(3), hang(1), hang(0)]

SIXTEEN = [begin()] + [room(n % 8) for n in range(18)] + [hang(17 - n) for n in range(16)]


class HangTest(unittest.TestCase):
    def test_numbered_from_0_of_that_room_and_its_zone(self):
        told = ask(*BEFORE, hang(2), door(0), door(1), door(2))
        self.assertEqual(told[-6:-3], [[0], [1], [2]])
        self.assertEqual(told[-3:], [[0, 1, 5, 0, 0, 0, 0], [0, 0, 2, 0, 0, 0, 0], [0, 2, 0, 0, 0, 0, 0]])

    def test_it_has_learned_nothing_whatever_the_desk_knows(self):
        told = ask(begin(), room(6), day(9), come(0, 20), lost(0), recall(), hang(0), door(0), book(0, 0))
        self.assertEqual(told[-3:], [[0], [0, 0, 6, 0, 0, 0, 0], [-6]])

    def test_each_zone(self):
        for zone in range(8):
            self.assertEqual(last_of(begin(), room(zone), hang(0), door(0)), [0, 0, zone, 0, 0, 0, 0])

    def test_no_such_room(self):
        self.assertEqual(last_of(begin(), hang(0)), [-2])
        for place in (3, 4, 63, 64, MOST, TOP):
            check_refused(self, -2, BEFORE, hang(place))
        self.assertEqual(ask(begin(), room(0), hang(1), room(0), hang(1))[2::2], [[-2], [0]])

    def test_two_doors_of_one_room(self):
        check_refused(self, -17, BEFORE, hang(0))
        check_refused(self, -17, BEFORE, hang(1))

    def test_16_doors_and_one_more(self):
        self.assertEqual(ask(*SIXTEEN)[-16:], [[n] for n in range(16)])
        check_refused(self, -28, SIXTEEN, hang(0))
        check_refused(self, -28, SIXTEEN, hang(1))

    def test_with_16_doors_the_others_are_refused_first(self):
        for place in (2, 9, 17):
            check_refused(self, -17, SIXTEEN, hang(place))
        for place in (18, 64, TOP):
            check_refused(self, -2, SIXTEEN, hang(place))

    def test_each_of_16_doors_is_itself(self):
        told = ask(*SIXTEEN, doorday(15, 7), bolt(4, 1), *[door(at) for at in range(17)])[-17:]
        want = [[0, 17 - at, (17 - at) % 8, 0, 0, 0, 0] for at in range(16)] + [[-2]]
        want[15][3] = 7
        want[4][0] = 1
        self.assertEqual(told, want)

    def test_the_last_room_of_all(self):
        rooms = [room(n % 8) for n in range(64)]
        told = ask(begin(), *rooms, hang(63), door(0), come(63, 4), show(0, 0), hang(64))
        self.assertEqual(told[-5:-3], [[0], [0, 63, 7, 0, 0, 0, 0]])
        self.assertEqual(told[-2:], [[1], [-2]])


class NoSuchDoorTest(unittest.TestCase):
    def calls_with_a_door(self, at):
        # Of each call one that would be answered at a door, and such as would be refused there.
        good = card(GUEST, 1, 9, 9, 0)
        return [
            doorday(at, 5), doorday(at, MOST + 1), show_to(at, good), show_to(at, []), would(at, good),
            would(at, [1] * 40), show(at, 0), show(at, 64), show(at, TOP), bolt(at, 0), bolt(at, 1), bolt(at, 2),
            book(at, 0), book(at, 16), book(at, TOP), door(at),
        ]

    def test_it_is_refused_first(self):
        before = BEFORE + [need(9)]
        for at in (2, 3, 16, 64, MOST, TOP):
            for call in self.calls_with_a_door(at):
                check_refused(self, -2, before, call)

    def test_with_no_door_and_no_card(self):
        for call in self.calls_with_a_door(0):
            self.assertEqual(last_of(begin(), room(0), call), [-2])

    def test_with_16_doors(self):
        for call in self.calls_with_a_door(16):
            self.assertEqual(last_of(*SIXTEEN, call), [-2])
        for call in self.calls_with_a_door(15):
            self.assertNotEqual(last_of(*SIXTEEN, call), [-2])


class DoordayTest(unittest.TestCase):
    def test_before_at_and_behind_its_day(self):
        before = BEFORE + [doorday(1, 10)]
        check_refused(self, -22, before, doorday(1, 9))
        check_refused(self, -22, before, doorday(1, 0))
        self.assertEqual(ask(*before, doorday(1, 10), door(1))[-2:], [[0], [0, 0, 2, 10, 0, 0, 0]])
        self.assertEqual(ask(*before, doorday(1, 11), door(1))[-2:], [[0], [0, 0, 2, 11, 0, 0, 0]])

    def test_the_last_day(self):
        for d in (MOST + 1, MOST + 2, 131071, TOP):
            check_refused(self, -22, BEFORE, doorday(0, d))
            check_refused(self, -22, BEFORE + [doorday(0, MOST)], doorday(0, d))
        told = ask(*BEFORE, doorday(0, MOST), door(0), doorday(0, MOST), doorday(0, MOST - 1))
        self.assertEqual(told[-4:], [[0], [0, 1, 5, MOST, 0, 0, 0], [0], [-22]])

    def test_the_desks_day_does_not_matter(self):
        told = ask(*BEFORE, doorday(0, 1), doorday(0, 2), doorday(0, 40), door(0))
        self.assertEqual(told[-4:], [[0], [0], [0], [0, 1, 5, 40, 0, 0, 0]])

    def test_neither_the_desk_nor_another_door_is_changed(self):
        before = BEFORE + [come(0, 5)]
        behind = [desk(), door(1), copy(0), come(1, 3), day(2), day(3)]
        self.assertEqual(ask(*before, doorday(0, 30), *behind)[-6:], ask(*before, *behind)[-6:])

    def test_nothing_else_of_the_door_is_changed(self):
        before = BEFORE + [recall(), come(0, 5), show(1, 0), staff(255, 5), show(1, 0), bolt(1, 1)]
        told = ask(*before, door(1), doorday(1, 4), door(1), book(1, 0), book(1, 1))
        self.assertEqual(told[-5:], [
            [1, 0, 2, 0, 1, 1, 2], [0], [1, 0, 2, 4, 1, 1, 2], [STAFF, 1, 1, 0], [GUEST, 1, 0, 0],
        ])


class BoltTest(unittest.TestCase):
    def test_bolted_and_not(self):
        told = ask(*BEFORE, bolt(0, 1), door(0), bolt(0, 1), door(0), bolt(0, 0), door(0), bolt(0, 0), door(0))
        self.assertEqual(told[-8::2], [[0]] * 4)
        self.assertEqual([part[0] for part in told[-7::2]], [1, 1, 0, 0])

    def test_above_1(self):
        for on in (2, 3, 256, MOST + 1, MOST + 2, TOP):
            check_refused(self, -22, BEFORE, bolt(0, on))
            check_refused(self, -22, BEFORE + [bolt(0, 1)], bolt(0, on))

    def test_that_alone_is_changed(self):
        before = BEFORE + [doorday(0, 4), recall(), come(1, 5), show(0, 0), staff(255, 5), show(0, 0)]
        told = ask(*before, bolt(0, 1), door(0), door(1), desk(), book(0, 0), bolt(0, 0), door(0))
        self.assertEqual(told[-7:], [
            [0], [1, 1, 5, 4, 1, 1, 2], [0, 0, 2, 0, 0, 0, 0], [3, 1, 3, 1, 2], [STAFF, 1, 1, 4], [0],
            [0, 1, 5, 4, 1, 1, 2],
        ])


class DoorTest(unittest.TestCase):
    def test_it_tells_all_and_changes_nothing(self):
        before = BEFORE + [
            doorday(1, 6), show_to(1, card(GUEST, 0, 700, 9, 1)), show_to(1, card(EMERGENCY, 255, 800, 9, 2)),
            show_to(1, card(STAFF, 255, 900, 9, 3)), bolt(1, 1),
        ]
        check_changes_nothing(self, [1, 0, 2, 6, 700, 900, 3], before, door(1))
        check_changes_nothing(self, [0, 1, 5, 0, 0, 0, 0], before, door(0))

    def test_how_many_stand_in_the_book(self):
        for count in (0, 1, 15, 16, 17, 40):
            told = last_of(*BEFORE, come(0, 9), *[show(1, 0)] * count, door(1))
            self.assertEqual(told[6], min(count, 16))


class BookTest(unittest.TestCase):
    def written(self, count):
        """So many cards shown to door 0 that take the serial numbers 300, 301 .. and the days 0, 1 .."""
        calls = []
        for n in range(count):
            calls += [doorday(0, n), show_to(0, card((1, 2, 3, 4)[n % 4], (1, 32, 1, 255)[n % 4], 500 + n, n, 300 + n))]
        return BEFORE + calls

    def test_with_so_many_written(self):
        for count in (0, 1, 2, 15, 16, 17, 18, 40):
            before = self.written(count)
            for k in (0, 1, 14, 15, 16, 17, MOST, TOP):
                if k >= min(count, 16):
                    check_refused(self, -6, before, book(0, k))
                else:
                    n = count - 1 - k
                    check_changes_nothing(self, [(1, 2, 3, 4)[n % 4], 500 + n, 300 + n, n], before, book(0, k))

    def test_the_doors_day_not_the_desks_nor_the_cards(self):
        told = ask(*BEFORE, doorday(1, 7), come(0, 9), show(1, 0), doorday(1, 8), everywhere(9), book(1, 0))
        self.assertEqual(told[-1], [GUEST, 1, 0, 7])

    def test_each_door_has_its_own(self):
        told = ask(*BEFORE, need(9), show(0, 0), recall(), need(9), show(1, 0), book(0, 0), book(0, 1), book(1, 0),
                   book(1, 1))
        self.assertEqual(told[-4:], [[EMERGENCY, 0, 0, 0], [-6], [EMERGENCY, 1, 1, 0], [-6]])

    def test_what_is_refused_is_not_written(self):
        refused = [
            show_to(0, card(GUEST, 0, 1, 9, 0)), show_to(0, card(GUEST, 1, 1, 4, 0)), show_to(0, []), bolt(0, 1),
            show_to(0, card(GUEST, 1, 1, 9, 0)), show_to(0, card(STAFF, 32, 1, 9, 0)), show(0, 0),
        ]
        told = ask(*BEFORE, doorday(0, 5), *refused, door(0), book(0, 0))
        self.assertEqual([part[0] for part in told[-9:-2]], [-13, -34, -71, 0, -15, -15, -6])
        self.assertEqual(told[-2:], [[1, 1, 5, 5, 0, 0, 0], [-6]])

    def test_the_same_card_is_written_each_time(self):
        told = ask(*BEFORE, come(0, 9), show(1, 0), show(1, 0), book(1, 0), book(1, 1), book(1, 2))
        self.assertEqual(told[-3:], [[GUEST, 1, 0, 0], [GUEST, 1, 0, 0], [-6]])

    def test_a_kept_card_that_is_kept_no_more_stands_there_still(self):
        told = ask(*BEFORE, come(0, 9), show(1, 0), *[need(9)] * 64, kept(63), book(1, 0))
        self.assertEqual(told[-1], [GUEST, 1, 0, 0])
        self.assertEqual(told[-2], [16] + card(EMERGENCY, 255, 0, 9, 1))


if __name__ == "__main__":
    unittest.main()
