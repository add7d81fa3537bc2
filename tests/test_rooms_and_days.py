import unittest

from doorcardsdesk.deskcalls import desk_answer
from doorcardsdesk.house import House
from helper import (
    KEY, MOST, SHUTTING, TOP, ask, begin, check_refused, come, copy, day, last_of, leave, longer, made, room, shut,
)


class RoomTest(unittest.TestCase):
    def test_zones_to_7(self):
        self.assertEqual(ask(begin(), *[room(zone) for zone in range(8)])[1:], [[n] for n in range(8)])

    def test_a_zone_above_7(self):
        for zone in (8, 9, 255, 256, MOST, TOP):
            check_refused(self, -22, [begin(), room(0)], room(zone))

    def test_64_rooms_and_one_more(self):
        rooms = [room(n % 8) for n in range(64)]
        told = ask(begin(), *rooms)
        self.assertEqual(told[1:], [[n] for n in range(64)])
        check_refused(self, -28, [begin()] + rooms, room(7))
        check_refused(self, -22, [begin()] + rooms, room(8))
        self.assertEqual(last_of(begin(), *rooms, shut(63)), made(SHUTTING, 63, 1, 0, 0))
        self.assertEqual(last_of(begin(), *rooms, shut(64)), [-2])

    def test_a_room_is_new(self):
        house = House(list(KEY))
        self.assertEqual(desk_answer(house, 1, [5]), [0])
        self.assertEqual(desk_answer(house, 1, [2]), [1])
        rooms = [(each.zone, each.number, each.stay) for each in house.desk.rooms]
        self.assertEqual(rooms, [(5, 0, None), (2, 0, None)])


class DayTest(unittest.TestCase):
    def test_before_at_and_behind_the_day(self):
        before = [begin(), room(0), day(10)]
        check_refused(self, -22, before, day(9))
        check_refused(self, -22, before, day(0))
        self.assertEqual(ask(*before, day(10), day(11), shut(0))[2:], [[0], [0], [0], made(SHUTTING, 0, 1, 11, 0)])

    def test_the_first_day_is_0(self):
        self.assertEqual(ask(begin(), room(0), shut(0), day(0))[2:], [made(SHUTTING, 0, 1, 0, 0), [0]])

    def test_the_last_day(self):
        before = [begin(), room(0)]
        for d in (MOST + 1, 131071, TOP):
            check_refused(self, -22, before, day(d))
            check_refused(self, -22, before + [day(MOST)], day(d))
        told = ask(*before, day(MOST), day(MOST), come(0, MOST), day(MOST - 1))
        self.assertEqual(told[2:], [[0], [0], made(1, 0, 1, MOST, 0), [-22]])

    def test_a_stay_is_over_behind_its_last_day(self):
        before = [begin(), room(0), come(0, 5)]
        self.assertEqual(ask(*before, day(5), copy(0))[3:], [[0], made(1, 0, 1, 5, 1)])
        self.assertEqual(ask(*before, day(6), copy(0))[3:], [[1], [-6]])
        self.assertEqual(ask(*before, day(5), day(6), day(7))[3:], [[0], [1], [0]])

    def test_how_many_are_over(self):
        before = [begin()] + [room(0) for n in range(6)]
        stays = [come(0, 3), come(1, 4), come(3, 3), come(4, 9), come(5, 0), leave(3)]
        told = ask(*before, *stays, day(4), copy(0), copy(1), copy(3), copy(4), copy(5), day(MOST), copy(4))
        self.assertEqual(told[len(before) + len(stays)], [2])
        self.assertEqual([part[0] for part in told[-7:]], [-6, 5, -6, 6, -6, 2, -6])

    def test_a_stay_made_longer_lasts(self):
        told = ask(begin(), room(0), come(0, 5), longer(0, 7), day(6), day(7), day(8))
        self.assertEqual(told[4:], [[0], [0], [1]])

    def test_a_stay_over_keeps_the_number(self):
        told = ask(begin(), room(0), come(0, 5), day(6), come(0, 6))
        self.assertEqual(told[4], made(1, 0, 2, 6, 1))


if __name__ == "__main__":
    unittest.main()
