import unittest

from helper import (
    GUEST, KEY, OTHER_KEY, STAFF, TOP, ask, begin, card, check_refused, come, copy, day, leave, longer, lost,
    made, need, recall, room, shut, staff, whose,
)

ALL_BUT_BEGIN = [
    room(0), room(8), day(0), day(TOP), come(0, 0), come(TOP, TOP), copy(0), lost(0), longer(0, 0), leave(0),
    shut(0), staff(1, 0), staff(0, 0), recall(), need(0), need(TOP), whose([]), whose(card(GUEST, 0, 1, 0, 0)),
    whose([0] * 40),
]


class BeginTest(unittest.TestCase):
    def test_key_of_16_bytes_alone(self):
        for length in range(41):
            told = ask(begin([200] * length), room(0))
            self.assertEqual(told, [[0], [0]] if length == 16 else [[-22], [-61]])

    def test_a_refused_begin_leaves_the_house(self):
        before = [begin(), room(3), room(0), day(4), come(0, 9), recall()]
        for length in (0, 15, 17, 40):
            check_refused(self, -22, before, begin([1] * length))

    def test_such_a_house_has_nothing_yet(self):
        told = ask(begin(), copy(0), staff(1, 0), recall(), room(0), shut(0))
        self.assertEqual(told, [[0], [-2], made(STAFF, 1, 0, 0, 0), [1], [0], made(3, 0, 1, 0, 1)])

    def test_the_key_is_the_one_given(self):
        for key in (KEY, OTHER_KEY, [0] * 16, [255] * 16):
            self.assertEqual(ask(begin(key), need(7))[1], made(4, 255, 0, 7, 0, key))


class NoHouseTest(unittest.TestCase):
    def test_all_but_begin(self):
        self.assertEqual(ask(*ALL_BUT_BEGIN), [[-61]] * len(ALL_BUT_BEGIN))

    def test_alone(self):
        for call in ALL_BUT_BEGIN:
            self.assertEqual(ask(call), [[-61]])

    def test_calls_before_begin_leave_no_trace(self):
        behind = [begin(), room(0), come(0, 5), recall(), staff(3, 6)]
        told = ask(*ALL_BUT_BEGIN, *behind)
        self.assertEqual(told[len(ALL_BUT_BEGIN):], ask(*behind))


class BeginAnewTest(unittest.TestCase):
    def test_nothing_is_left_of_the_old_house(self):
        first = [begin(), room(0), room(1), day(9), come(0, 20), lost(0), recall(), staff(1, 30)]
        second = [begin(), copy(0), room(5), come(0, 0), shut(1), staff(1, 0), recall(), need(2), day(1)]
        self.assertEqual(ask(*first, *second)[len(first):], ask(*second))

    def test_with_another_key_old_cards_are_none(self):
        old = card(GUEST, 0, 1, 5, 0)
        told = ask(begin(), room(0), come(0, 5), whose(old), begin(OTHER_KEY), room(0), come(0, 5), whose(old))
        self.assertEqual(told[3], [1, GUEST, 0, 1, 5, 0])
        self.assertEqual(told[6], made(GUEST, 0, 1, 5, 0, OTHER_KEY))
        self.assertEqual(told[7], [-71])

    def test_with_the_same_key_old_cards_are_read(self):
        old = card(GUEST, 0, 1, 5, 0)
        told = ask(begin(), room(0), come(0, 5), begin(), whose(old), room(0), whose(old), come(0, 3), whose(old))
        self.assertEqual(told[4][0], 0)
        self.assertEqual(told[6][0], 0)
        self.assertEqual(told[8], [1, GUEST, 0, 1, 5, 0])


if __name__ == "__main__":
    unittest.main()
