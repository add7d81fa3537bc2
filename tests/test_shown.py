"""What a door does when it is shown a card: by open, by would and by show."""

import unittest

from helper import (
    EMERGENCY, GUEST, KEY, MOST, OTHER_KEY, SHUTTING, STAFF, TOP, ask, begin, bolt, book, card, check_changes_nothing,
    check_refused, come, copy, day, desk, door, doorday, hang, kept, last_of, leave, lost, need, recall, room, show,
    show_to, shut, siphash, staff, stay, would,
)

# Rooms 0 and 1 in zones 2 and 5, with the doors 0 and 1. Door 0: day 10, number 500, round 700, two in its book.
BEFORE = [
    begin(), room(2), room(5), hang(0), hang(1), doorday(0, 10),
    show_to(0, card(GUEST, 0, 500, 10, 1)), show_to(0, card(STAFF, 4, 700, 10, 2)),
]
BOLTED = BEFORE + [bolt(0, 1)]
STATE = [0, 0, 2, 10, 500, 700, 2]

# By kind: the place that is door 0's, and the number that door 0 has learned for such cards.
RIGHT = {GUEST: (0, 500), SHUTTING: (0, 500), STAFF: (4, 700), EMERGENCY: (255, 700)}


class ShownTest(unittest.TestCase):
    def check(self, answer, before, given, at=0):
        """That open and would answer this; that would changes nothing, and open neither where it refuses."""
        check_changes_nothing(self, [answer], before, would(at, given))
        self.assertEqual(last_of(*before, show_to(at, given)), [answer])
        if answer < 0:
            check_refused(self, answer, before, show_to(at, given))

    def check_door(self, state, before, given, at=0):
        self.assertEqual(last_of(*before, show_to(at, given), door(at)), state)


class AnswerTest(ShownTest):
    def test_the_door_as_it_stands(self):
        self.assertEqual(ask(*BEFORE, door(0), book(0, 0), book(0, 1))[-3:], [STATE, [2, 700, 2, 10], [1, 500, 1, 10]])

    def test_a_number_that_is_less_alike_and_more(self):
        for kind, (place, number) in RIGHT.items():
            for other, answer in (
                (0, -17), (number - 256, -17), (number - 1, -17), (number, kind), (number + 1, kind), (MOST, kind),
            ):
                self.check(answer, BEFORE, card(kind, place, other, 20, 9))

    def test_a_last_day_that_is_less_alike_and_more(self):
        for kind, (place, number) in RIGHT.items():
            for last, answer in ((0, -34), (9, -34), (10, kind), (11, kind), (266, kind), (MOST, kind)):
                self.check(answer, BEFORE, card(kind, place, number, last, 9))

    def test_another_room(self):
        for kind in (GUEST, SHUTTING):
            for place in range(1, 64):
                self.assertEqual(last_of(*BEFORE, show_to(0, card(kind, place, 500, 20, 9))), [-13])
            self.check(-13, BEFORE, card(kind, 1, 500, 20, 9))
            self.check(-13, BEFORE, card(kind, 63, MOST, 20, 9))
            self.check(kind, BEFORE, card(kind, 1, 500, 20, 9), at=1)

    def test_bolted(self):
        for kind, (place, number) in RIGHT.items():
            answer = -15 if kind in (GUEST, STAFF) else kind
            self.check(answer, BOLTED, card(kind, place, number, 20, 9))
            self.check(answer, BOLTED, card(kind, place, number + 1, 20, 9))
            self.check(kind, BOLTED + [bolt(0, 0)], card(kind, place, number, 20, 9))

    def test_bolted_at_another_door(self):
        self.check(GUEST, BOLTED, card(GUEST, 1, 500, 20, 9), at=1)
        self.check(STAFF, BOLTED, card(STAFF, 32, 500, 20, 9), at=1)

    def test_which_refusal_comes_first(self):
        for kind, (place, number) in RIGHT.items():
            elsewhere = {GUEST: 1, SHUTTING: 1, STAFF: 255 - 4, EMERGENCY: None}[kind]
            for before in (BEFORE, BOLTED):
                if elsewhere is not None:
                    self.check(-13, before, card(kind, elsewhere, number - 1, 9, 9))
                    self.check(-13, before, card(kind, elsewhere, number, 9, 9))
                    self.check(-13, before, card(kind, elsewhere, number - 1, 20, 9))
                    self.check(-13, before, card(kind, elsewhere, number, 20, 9))
                self.check(-34, before, card(kind, place, number - 1, 9, 9))
                self.check(-34, before, card(kind, place, number, 9, 9))
                self.check(-17, before, card(kind, place, number - 1, 20, 9))

    def test_guests_go_by_the_number_and_staff_by_the_round(self):
        # Numbers between the door's number, 500, and its round, 700.
        self.check(GUEST, BEFORE, card(GUEST, 0, 600, 20, 9))
        self.check(SHUTTING, BEFORE, card(SHUTTING, 0, 600, 20, 9))
        self.check(-17, BEFORE, card(STAFF, 4, 600, 20, 9))
        self.check(-17, BEFORE, card(EMERGENCY, 255, 600, 20, 9))

    def test_the_number_0_at_a_door_that_learned_nothing(self):
        for kind, place in ((GUEST, 1), (STAFF, 32), (SHUTTING, 1), (EMERGENCY, 255)):
            self.check(kind, BEFORE, card(kind, place, 0, 0, 0), at=1)

    def test_the_serial_number_does_not_matter(self):
        for kind, (place, number) in RIGHT.items():
            for serial in (0, 1, 2, 256, MOST):
                self.check(kind, BEFORE, card(kind, place, number, 10, serial))

    def test_the_desk_does_not_matter(self):
        # A desk that knows of no such stay, number, round or day is not asked.
        self.check(GUEST, BEFORE + [day(300)], card(GUEST, 0, 500, 10, 9))
        self.check(STAFF, BEFORE + [day(300), recall()], card(STAFF, 4, 700, 10, 9))


class ZonesTest(ShownTest):
    def house(self, zone):
        return [begin(), room(0), room(zone), hang(1)]

    def test_staffs_at_a_door_of_each_zone(self):
        for zone in range(8):
            before = self.house(zone)
            for other in range(8):
                self.check(STAFF if zone == other else -13, before, card(STAFF, 1 << other, 0, 0, 0))
                self.check(-13 if zone == other else STAFF, before, card(STAFF, 255 - (1 << other), 0, 0, 0))
            self.check(STAFF, before, card(STAFF, 255, 0, 0, 0))

    def test_every_set_of_zones(self):
        for zone in range(8):
            told = ask(*self.house(zone), *[would(0, card(STAFF, zones, 0, 0, 0)) for zones in range(1, 256)])[4:]
            self.assertEqual(told, [[STAFF] if zones >> zone & 1 else [-13] for zones in range(1, 256)])

    def test_an_emergencys_in_every_zone(self):
        for zone in range(8):
            self.check(EMERGENCY, self.house(zone), card(EMERGENCY, 255, 0, 0, 0))
            self.check(EMERGENCY, self.house(zone) + [bolt(0, 1)], card(EMERGENCY, 255, 0, 0, 0))


class ChangeTest(ShownTest):
    def test_a_guests_changes_the_number_alone(self):
        self.check_door([0, 0, 2, 10, 501, 700, 3], BEFORE, card(GUEST, 0, 501, 20, 9))
        self.check_door([0, 0, 2, 10, MOST, 700, 3], BEFORE, card(GUEST, 0, MOST, 20, 9))
        self.check_door([0, 0, 2, 10, 500, 700, 3], BEFORE, card(GUEST, 0, 500, 20, 9))

    def test_one_that_shuts_changes_the_number_alone(self):
        self.check_door([0, 0, 2, 10, 501, 700, 3], BEFORE, card(SHUTTING, 0, 501, 20, 9))
        self.check_door([1, 0, 2, 10, 501, 700, 3], BOLTED, card(SHUTTING, 0, 501, 20, 9))

    def test_staffs_changes_the_round_alone(self):
        self.check_door([0, 0, 2, 10, 500, 701, 3], BEFORE, card(STAFF, 4, 701, 20, 9))
        self.check_door([0, 0, 2, 10, 500, 700, 3], BEFORE, card(STAFF, 4, 700, 20, 9))

    def test_an_emergencys_changes_the_round_and_the_bolt(self):
        self.check_door([0, 0, 2, 10, 500, 701, 3], BEFORE, card(EMERGENCY, 255, 701, 20, 9))
        self.check_door([0, 0, 2, 10, 500, 701, 3], BOLTED, card(EMERGENCY, 255, 701, 20, 9))
        self.check_door([0, 0, 2, 10, 500, 700, 3], BOLTED, card(EMERGENCY, 255, 700, 20, 9))

    def test_behind_an_emergencys_the_door_is_bolted_no_more(self):
        told = ask(*BOLTED, show_to(0, card(GUEST, 0, 500, 20, 9)), show_to(0, card(EMERGENCY, 255, 700, 20, 9)),
                   show_to(0, card(GUEST, 0, 500, 20, 9)), show_to(0, card(STAFF, 4, 700, 20, 9)))
        self.assertEqual(told[-4:], [[-15], [4], [1], [2]])

    def test_a_refused_emergencys_leaves_it_bolted(self):
        self.check_door([1, 0, 2, 10, 500, 700, 2], BOLTED, card(EMERGENCY, 255, 699, 20, 9))
        self.check_door([1, 0, 2, 10, 500, 700, 2], BOLTED, card(EMERGENCY, 255, 700, 9, 9))

    def test_what_is_written(self):
        for kind, (place, number) in RIGHT.items():
            told = ask(*BEFORE, show_to(0, card(kind, place, number + 3, 20, 999)), book(0, 0), book(0, 1), book(0, 3))
            self.assertEqual(told[-3:], [[kind, number + 3, 999, 10], [STAFF, 700, 2, 10], [-6]])

    def test_neither_the_desk_nor_another_door_is_changed(self):
        behind = [desk(), stay(0), kept(0), door(1), book(1, 0), copy(0)]
        for kind, (place, number) in RIGHT.items():
            before = BEFORE + [come(0, 30), recall()]
            told = ask(*before, show_to(0, card(kind, place, number + 3, 20, 9)), *behind)
            self.assertEqual(told[-6:], ask(*before, *behind)[-6:])

    def test_the_card_shown_again(self):
        for kind, (place, number) in RIGHT.items():
            again = [show_to(0, card(kind, place, number + 1, 20, 9))] * 3
            self.assertEqual(ask(*BEFORE, *again)[-3:], [[kind]] * 3)

    def test_the_older_one_is_refused_then(self):
        for kind, (place, number) in RIGHT.items():
            told = ask(*BEFORE, show_to(0, card(kind, place, number + 1, 20, 9)),
                       show_to(0, card(kind, place, number, 20, 9)))
            self.assertEqual(told[-2:], [[kind], [-17]])

    def test_the_largest_numbers(self):
        for kind, (place, number) in RIGHT.items():
            told = ask(*BEFORE, doorday(0, MOST), show_to(0, card(kind, place, MOST, MOST, MOST)), book(0, 0),
                       would(0, card(kind, place, MOST - 1, MOST, 0)), would(0, card(kind, place, MOST, MOST - 1, 0)))
            self.assertEqual(told[-4:], [[kind], [kind, MOST, MOST, MOST], [-17], [-34]])


class WouldTest(ShownTest):
    def test_the_same_number_as_open_then_and_nothing_done(self):
        given = [
            card(kind, place, number, last, 9)
            for kind, places in ((1, (0, 1)), (2, (4, 32, 255)), (3, (0, 1)), (4, (255,)))
            for place in places for number in (499, 500, 501, 699, 700, 701) for last in (9, 10, 11)
        ] + [[], [0] * 16, card(0, 0, 500, 20, 9)]
        for before in (BEFORE, BOLTED):
            wouldbe = ask(*before, *[would(0, each) for each in given], door(0))[len(before):]
            opened = [last_of(*before, show_to(0, each)) for each in given]
            self.assertEqual(wouldbe[:-1], opened)
            self.assertEqual(wouldbe[-1], last_of(*before, door(0)))

    def test_an_emergencys_would_unbolts_nothing(self):
        told = ask(*BOLTED, would(0, card(EMERGENCY, 255, 700, 20, 9)), would(0, card(GUEST, 0, 500, 20, 9)), door(0))
        self.assertEqual(told[-3:], [[4], [-15], [1, 0, 2, 10, 500, 700, 2]])

    def test_a_would_that_shuts_shuts_nothing(self):
        told = ask(*BEFORE, would(0, card(SHUTTING, 0, 501, 20, 9)), would(0, card(GUEST, 0, 500, 20, 9)))
        self.assertEqual(told[-2:], [[3], [1]])


class NoCardTest(ShownTest):
    def test_lists_of_other_lengths(self):
        right = card(GUEST, 0, 500, 20, 9)
        for length in range(41):
            self.check(1 if length == 16 else -71, BEFORE, (right * 3)[:length])

    def test_rightly_tagged_messages_of_other_lengths(self):
        for length in (0, 7, 9, 32):
            said = [1] * length
            self.check(-71, BEFORE, said + siphash(KEY, said))

    def test_one_byte_changed_at_each_place(self):
        for kind, (place, number) in RIGHT.items():
            right = card(kind, place, number, 20, 9)
            for at in range(16):
                for change in (1, 128, 255):
                    given = list(right)
                    given[at] ^= change
                    told = ask(*BEFORE, would(0, given), show_to(0, given), door(0))
                    self.assertEqual(told[-3:], [[-71], [-71], STATE])

    def test_another_key(self):
        for kind, (place, number) in RIGHT.items():
            self.check(-71, BEFORE, card(kind, place, number, 20, 9, OTHER_KEY))

    def test_a_kind_or_a_place_that_is_none(self):
        for kind in [0] + list(range(5, 256)):
            for place in (0, 255):
                given = card(kind, place, 700, 20, 9)
                self.assertEqual(ask(*BEFORE, would(0, given), show_to(0, given))[-2:], [[-71], [-71]])
        for kind, place in ((1, 64), (1, 255), (3, 64), (3, 255), (2, 0), (4, 0), (4, 4), (4, 254)):
            self.check(-71, BEFORE, card(kind, place, 700, 20, 9))

    def test_ahead_of_all_that_a_door_says(self):
        wrong = card(GUEST, 1, 0, 0, 0)
        wrong[15] ^= 1
        self.check(-71, BOLTED, wrong)


class ShowTest(unittest.TestCase):
    def test_with_so_many_made(self):
        for count in (0, 1, 2, 63, 64, 65, 66, 130):
            before = BEFORE + [come(0, 9)][:count] + [need(30)] * (count - 1)
            for k in (0, 1, 62, 63, 64, 65, MOST, TOP):
                if k >= min(count, 64):
                    check_refused(self, -6, before, show(0, k))
                elif count - 1 - k == 0:
                    check_refused(self, -34, before, show(0, k))
                else:
                    check_refused(self, -17, before, show(0, k))
                    self.assertEqual(ask(*before, show(1, k), book(1, 0))[-2:], [[4], [4, 0, count - 1 - k, 0]])

    def test_as_open_with_that_card(self):
        cards = [come(0, 20), shut(1), staff(4, 9), staff(255, 20), recall(), need(12), lost(0), leave(0), come(0, 30),
                 leave(0), shut(0), staff(32, 30)]
        before = [begin(), room(2), room(5), hang(0), hang(1), day(5), *cards, doorday(0, 10)]
        told = ask(*before, *[kept(k) for k in range(9)])[-9:]
        for at in (0, 1):
            for first in range(9):
                for k in range(9):
                    by_number = ask(*before, show(at, first), show(at, k), door(0), door(1), book(at, 0))
                    by_card = ask(*before, show_to(at, told[first][1:]), show_to(at, told[k][1:]), door(0), door(1),
                                  book(at, 0))
                    self.assertEqual(by_number, by_card)

    def test_each_of_its_answers(self):
        before = [begin(), room(2), room(5), hang(0), hang(1)]
        for answer, calls in (
            (1, [come(0, 20)]), (2, [staff(4, 20)]), (3, [shut(0)]), (4, [need(0)]),
            (-13, [come(1, 20)]), (-13, [shut(1)]), (-13, [staff(32, 20)]),
            (-34, [come(0, 20), doorday(0, 21)]), (-34, [shut(0), doorday(0, 1)]), (-34, [need(8), doorday(0, 9)]),
            (-15, [come(0, 20), bolt(0, 1)]), (-15, [staff(4, 20), bolt(0, 1)]),
            (3, [shut(0), bolt(0, 1)]), (4, [need(0), bolt(0, 1)]),
        ):
            self.assertEqual(last_of(*before, *calls, show(0, 0)), [answer])
            if answer < 0:
                check_refused(self, answer, before + calls, show(0, 0))
        self.assertEqual(ask(*before, come(0, 20), lost(0), show(0, 0), show(0, 1))[-2:], [[1], [-17]])

    def test_the_kept_cards_are_as_they_were(self):
        before = [begin(), room(2), hang(0), come(0, 20), lost(0), need(3)]
        asked = [desk()] + [kept(k) for k in range(4)]
        self.assertEqual(ask(*before, show(0, 1), show(0, 0), *asked)[-5:], ask(*before, *asked)[-5:])


if __name__ == "__main__":
    unittest.main()
