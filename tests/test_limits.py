"""What no list of 5000 calls reaches is asked of the program's own functions."""

import unittest

from doorcardsdesk.deskcalls import desk_answer
from doorcardsdesk.doorcalls import door_answer
from doorcardsdesk.house import House
from helper import EMERGENCY, GUEST, KEY, MOST, SHUTTING, STAFF, TOP, card, made

COME, COPY, LOST, LONGER, LEAVE, SHUT, STAFFS, RECALL, NEED = range(3, 12)
HANG, OPEN, SHOW, CARD, DOOR, ALL = 16, 18, 20, 21, 24, 25


def house_with(serial=0, number=0, staff_round=0):
    """A house on day 10 with a stay till 20 in room 0 and none in room 1."""
    house = House(list(KEY))
    desk_answer(house, 1, [0])
    desk_answer(house, 1, [7])
    desk_answer(house, 2, [10])
    house.desk.rooms[0].stay = 20
    house.desk.rooms[0].number = number
    house.desk.rooms[1].number = number
    house.desk.serial = serial
    house.desk.staff_round = staff_round
    return house


def state_of(house):
    desk = house.desk
    rooms = [(room.zone, room.number, room.stay) for room in desk.rooms]
    return desk.key, desk.day, desk.staff_round, desk.serial, rooms, list(house.cards)


class LimitsTest(unittest.TestCase):
    def check_refused(self, number, house, call, given):
        before = state_of(house)
        self.assertEqual(desk_answer(house, call, given), [number])
        self.assertEqual(state_of(house), before)

    def test_the_last_card(self):
        for call, given, said in (
            (COME, [1, 15], (GUEST, 1, 1, 15)),
            (COPY, [0], (GUEST, 0, 0, 20)),
            (LOST, [0], (GUEST, 0, 1, 20)),
            (LONGER, [0, 30], (GUEST, 0, 0, 30)),
            (SHUT, [1], (SHUTTING, 1, 1, 10)),
            (STAFFS, [255, 15], (STAFF, 255, 0, 15)),
            (NEED, [15], (EMERGENCY, 255, 0, 15)),
        ):
            house = house_with(serial=MOST - 1)
            self.assertEqual(desk_answer(house, call, given), made(*said, MOST - 1))
            self.assertEqual(house.desk.serial, MOST)
            self.check_refused(-28, house_with(serial=MOST), call, given)

    def test_what_is_refused_ahead_of_no_more_cards(self):
        house = house_with(serial=MOST, number=MOST)
        for number, call, given in (
            (-2, COME, [2, 15]), (-22, COME, [1, 9]), (-22, COME, [1, MOST + 1]), (-15, COME, [0, 15]),
            (-2, COPY, [2]), (-6, COPY, [1]),
            (-2, LOST, [2]), (-6, LOST, [1]),
            (-2, LONGER, [2, 30]), (-6, LONGER, [1, 30]), (-22, LONGER, [0, 19]), (-22, LONGER, [0, TOP]),
            (-2, SHUT, [2]), (-15, SHUT, [0]),
            (-22, STAFFS, [0, 15]), (-22, STAFFS, [256, 15]), (-22, STAFFS, [1, 9]),
            (-22, NEED, [9]), (-22, NEED, [MOST + 1]),
        ):
            self.check_refused(number, house, call, given)

    def test_what_needs_no_card_goes_on(self):
        house = house_with(serial=MOST, number=MOST)
        self.assertEqual(desk_answer(house, RECALL, []), [1])
        self.assertEqual(desk_answer(house, LEAVE, [0]), [0])
        self.assertEqual(desk_answer(house, 1, [0]), [2])
        self.assertEqual(desk_answer(house, 2, [11]), [0])
        self.assertEqual(desk_answer(house, 12, [card(3, 0, MOST, 11, 5)]), [1, 3, 0, MOST, 11, 5])
        self.assertEqual(desk_answer(house, 15, []), [3, 0, 11, 1, MOST])
        self.assertEqual(door_answer(house, HANG, [1]), [0])
        self.assertEqual(door_answer(house, OPEN, [0, card(1, 1, MOST, 11, 5)]), [1])
        self.assertEqual(door_answer(house, DOOR, [0]), [0, 1, 7, 0, MOST, 0, 1])
        self.assertEqual(door_answer(house, ALL, [12]), [0])

    def test_a_rooms_last_number(self):
        for call, given, said in (
            (COME, [1, 15], (GUEST, 1, MOST, 15)),
            (LOST, [0], (GUEST, 0, MOST, 20)),
            (SHUT, [1], (SHUTTING, 1, MOST, 10)),
        ):
            house = house_with(number=MOST - 1)
            self.assertEqual(desk_answer(house, call, given), made(*said, 0))
            self.assertEqual(house.desk.rooms[given[0]].number, MOST)
            self.check_refused(-28, house_with(number=MOST), call, given)

    def test_the_last_card_at_a_door(self):
        house = house_with(serial=MOST - 1, number=MOST - 1)
        door_answer(house, HANG, [0])
        desk_answer(house, LOST, [0])
        self.assertEqual(door_answer(house, SHOW, [0, 0]), [1])
        self.assertEqual(door_answer(house, CARD, [0]), [16] + card(GUEST, 0, MOST, 20, MOST - 1))
        self.assertEqual(door_answer(house, DOOR, [0]), [0, 0, 0, 0, MOST, 0, 1])
        self.check_refused(-28, house, COPY, [0])
        self.assertEqual(door_answer(house, CARD, [0]), [16] + card(GUEST, 0, MOST, 20, MOST - 1))

    def test_copy_and_longer_need_no_new_number(self):
        house = house_with(number=MOST)
        self.assertEqual(desk_answer(house, COPY, [0]), made(GUEST, 0, MOST, 20, 0))
        self.assertEqual(desk_answer(house, LONGER, [0, 21]), made(GUEST, 0, MOST, 21, 1))

    def test_the_last_round(self):
        house = house_with(staff_round=MOST - 1)
        self.assertEqual(desk_answer(house, RECALL, []), [MOST])
        self.check_refused(-28, house, RECALL, [])
        self.assertEqual(desk_answer(house, STAFFS, [1, 10]), made(STAFF, 1, MOST, 10, 0))
        self.assertEqual(desk_answer(house, NEED, [10]), made(EMERGENCY, 255, MOST, 10, 1))

    def test_another_rooms_number_does_not_count(self):
        house = house_with()
        house.desk.rooms[0].number = MOST
        self.assertEqual(desk_answer(house, COME, [1, 15]), made(GUEST, 1, 1, 15, 0))


class KeptCardsTest(unittest.TestCase):
    def test_none_at_first(self):
        self.assertEqual(House(list(KEY)).cards, [])

    def test_of_every_kind_the_last_first(self):
        house = house_with()
        calls = ((COME, [1, 15]), (COPY, [0]), (LOST, [0]), (LONGER, [0, 30]), (LEAVE, [1]), (SHUT, [1]),
                 (STAFFS, [1, 10]), (RECALL, []), (NEED, [10]), (COPY, [1]))
        told = [desk_answer(house, call, given) for call, given in calls]
        self.assertEqual(house.cards, [part[1:] for part in reversed(told) if len(part) == 17])

    def test_the_last_64(self):
        house = house_with()
        for count in range(1, 131):
            desk_answer(house, COPY, [0])
            serials = [each[6] + 256 * each[7] for each in house.cards]
            self.assertEqual(serials, list(range(count))[::-1][:64])

    def test_what_is_answered_is_not_what_is_kept(self):
        house = house_with()
        told = desk_answer(house, COPY, [0])
        told[1] = 99
        self.assertEqual(house.cards, [card(GUEST, 0, 0, 20, 0)])
        told = door_answer(house, CARD, [0])
        told[1] = 99
        self.assertEqual(house.cards, [card(GUEST, 0, 0, 20, 0)])


if __name__ == "__main__":
    unittest.main()
