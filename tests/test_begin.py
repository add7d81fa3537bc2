import unittest

from helper import (
    GUEST, KEY, OTHER_KEY, PROBES, STAFF, TELLING, TOP, ask, begin, bolt, book, card, check_refused, come, copy, day,
    desk, door, doorday, everywhere, free, hang, kept, leave, longer, lost, made, need, recall, room, show, show_to,
    shut, staff, stay, whose, would,
)

ALL_BUT_BEGIN = [
    room(0), room(8), day(0), day(TOP), come(0, 0), come(TOP, TOP), copy(0), lost(0), longer(0, 0), leave(0),
    shut(0), staff(1, 0), staff(0, 0), recall(), need(0), need(TOP), whose([]), whose(card(GUEST, 0, 1, 0, 0)),
    whose([0] * 40), stay(0), stay(TOP), free(), desk(), hang(0), hang(TOP), doorday(0, 0), doorday(TOP, TOP),
    show_to(0, card(GUEST, 0, 1, 0, 0)), show_to(TOP, []), show_to(0, [0] * 40), would(0, card(GUEST, 0, 1, 0, 0)),
    would(TOP, []), would(0, [0] * 40), show(0, 0), show(TOP, TOP), kept(0), kept(TOP), bolt(0, 0), bolt(0, 2),
    bolt(TOP, TOP), book(0, 0), book(TOP, TOP), door(0), door(TOP), everywhere(0), everywhere(TOP),
]

# Doors that have learned, one bolted, with books, and cards that are kept.
FULL = [
    begin(), room(3), room(0), day(4), hang(0), hang(1), come(0, 9), show(0, 0), lost(0), recall(), staff(255, 9),
    show(0, 0), show(1, 0), doorday(1, 8), bolt(1, 1), bolt(0, 1), need(9),
]


class BeginTest(unittest.TestCase):
    def test_key_of_16_bytes_alone(self):
        for length in range(41):
            told = ask(begin([200] * length), room(0))
            self.assertEqual(told, [[0], [0]] if length == 16 else [[-22], [-61]])

    def test_a_refused_begin_leaves_the_house(self):
        before = [begin(), room(3), room(0), day(4), come(0, 9), recall()]
        for length in (0, 15, 17, 40):
            check_refused(self, -22, before, begin([1] * length))
            check_refused(self, -22, FULL, begin([1] * length))

    def test_such_a_house_has_nothing_yet(self):
        told = ask(begin(), copy(0), staff(1, 0), recall(), room(0), shut(0))
        self.assertEqual(told, [[0], [-2], made(STAFF, 1, 0, 0, 0), [1], [0], made(3, 0, 1, 0, 1)])

    def test_the_key_is_the_one_given(self):
        for key in (KEY, OTHER_KEY, [0] * 16, [255] * 16):
            self.assertEqual(ask(begin(key), need(7))[1], made(4, 255, 0, 7, 0, key))


class NoHouseTest(unittest.TestCase):
    def test_all_but_begin(self):
        self.assertEqual(ask(*ALL_BUT_BEGIN), [[-61]] * len(ALL_BUT_BEGIN))

    def test_each_call_but_begin_is_among_these(self):
        self.assertEqual({call[0] for call in ALL_BUT_BEGIN}, set(range(1, 26)))

    def test_a_refused_begin_makes_no_house(self):
        told = ask(begin(KEY[:15]), *ALL_BUT_BEGIN, begin(KEY + [0]), *ALL_BUT_BEGIN)
        once = [[-22]] + [[-61]] * len(ALL_BUT_BEGIN)
        self.assertEqual(told, once + once)

    def test_alone(self):
        for call in ALL_BUT_BEGIN:
            self.assertEqual(ask(call), [[-61]])

    def test_calls_before_begin_leave_no_trace(self):
        behind = [begin(), room(0), come(0, 5), recall(), staff(3, 6)]
        told = ask(*ALL_BUT_BEGIN, *behind)
        self.assertEqual(told[len(ALL_BUT_BEGIN):], ask(*behind))


class BeginAnewTest(unittest.TestCase):
    def test_nothing_is_left_of_the_old_house(self):
        first = [begin(), room(0), room(1), day(9), come(0, 20), lost(0), recall(), staff(1, 30)]
        second = [begin(), copy(0), room(5), come(0, 0), shut(1), staff(1, 0), recall(), need(2), day(1)]
        self.assertEqual(ask(*first, *second)[len(first):], ask(*second))

    def test_no_doors_and_no_cards_are_left(self):
        for key in (KEY, OTHER_KEY):
            told = ask(*FULL, begin(key), *PROBES)[len(FULL):]
            self.assertEqual(told, ask(begin(key), *PROBES))
        told = ask(*FULL, begin(), door(0), book(0, 0), bolt(0, 0), doorday(1, 9), show(0, 0), kept(0), desk(), hang(0))
        self.assertEqual(told[-8:], [[-2], [-2], [-2], [-2], [-2], [-6], [0, 0, 0, 0, 0], [-2]])

    def test_the_rooms_doors_are_hung_anew(self):
        second = [begin(), room(6), hang(0), show(0, 0), kept(0), *TELLING, need(0), show(0, 0), kept(1), *TELLING]
        told = ask(*FULL, *second)[len(FULL):]
        self.assertEqual(told, ask(*second))
        self.assertEqual(told[2:5], [[0], [-6], [-6]])

    def test_doors_go_by_the_new_key(self):
        old, new = card(GUEST, 0, 1, 5, 0), card(GUEST, 0, 1, 5, 0, OTHER_KEY)
        told = ask(begin(), room(0), hang(0), would(0, old), would(0, new), begin(OTHER_KEY), room(0), hang(0),
                   would(0, old), would(0, new))
        self.assertEqual(told[3:5] + told[8:], [[1], [-71], [-71], [1]])

    def test_with_another_key_old_cards_are_none(self):
        old = card(GUEST, 0, 1, 5, 0)
        told = ask(begin(), room(0), come(0, 5), whose(old), begin(OTHER_KEY), room(0), come(0, 5), whose(old))
        self.assertEqual(told[3], [1, GUEST, 0, 1, 5, 0])
        self.assertEqual(told[6], made(GUEST, 0, 1, 5, 0, OTHER_KEY))
        self.assertEqual(told[7], [-71])

    def test_with_the_same_key_old_cards_are_read(self):
        old = card(GUEST, 0, 1, 5, 0)
        told = ask(begin(), room(0), come(0, 5), begin(), whose(old), room(0), whose(old), come(0, 3), whose(old))
        self.assertEqual(told[4][0], 0)
        self.assertEqual(told[6][0], 0)
        self.assertEqual(told[8], [1, GUEST, 0, 1, 5, 0])


if __name__ == "__main__":
    unittest.main()
