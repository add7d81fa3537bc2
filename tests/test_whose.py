import unittest

from helper import (
    EMERGENCY, GUEST, KEY, MOST, OTHER_KEY, SHUTTING, STAFF, ask, begin, card, check_refused, come, copy, day,
    last_of, leave, longer, lost, need, recall, room, shut, siphash, staff, whose,
)

# Day 10; room 0 has a stay till 20 and the number 1; room 1 was shut on day 10 and has the number 1; the round is 1.
BEFORE = [begin(), room(0), room(7), day(10), come(0, 20), shut(1), recall(), staff(3, 12), need(13)]

CARDS = [part[1:] for part in ask(*BEFORE) if len(part) == 17]


def tagged(said, key=KEY):
    return list(said) + siphash(key, said)


class NoCardTest(unittest.TestCase):
    def test_other_lengths(self):
        right = card(GUEST, 0, 1, 20, 0)
        for length in range(41):
            given = (right * 3)[:length]
            if length != 16:
                check_refused(self, -71, BEFORE, whose(given))
        self.assertEqual(last_of(*BEFORE, whose(right))[0], 1)

    def test_rightly_tagged_messages_of_other_lengths(self):
        for length in (0, 7, 9, 32):
            self.assertEqual(last_of(*BEFORE, whose(tagged([1] * length))), [-71])

    def test_one_byte_changed_at_each_place(self):
        for right in CARDS:
            for place in range(16):
                for change in (1, 128, 255):
                    given = list(right)
                    given[place] ^= change
                    self.assertEqual(last_of(*BEFORE, whose(given)), [-71])

    def test_each_value_of_each_byte(self):
        right = CARDS[0]
        calls = []
        for place in range(16):
            for value in range(256):
                calls.append(whose(right[:place] + [value] + right[place + 1:]))
        for at in range(0, len(calls), 1500):
            for call, told in zip(calls[at:at + 1500], ask(*BEFORE, *calls[at:at + 1500])[len(BEFORE):]):
                self.assertEqual(told, [1, GUEST, 0, 1, 20, 0] if call[2:] == right else [-71])

    def test_another_key(self):
        self.assertEqual(last_of(*BEFORE, whose(card(GUEST, 0, 1, 20, 0, OTHER_KEY))), [-71])

    def test_a_kind_that_is_none(self):
        for kind in [0] + list(range(5, 256)):
            for place in (0, 1, 255):
                self.assertEqual(last_of(*BEFORE, whose(card(kind, place, 1, 20, 0))), [-71])

    def test_a_place_that_the_kind_does_not_have(self):
        for place in range(256):
            told = ask(*BEFORE, *[whose(card(kind, place, 1, 20, 0)) for kind in (1, 2, 3, 4)])[len(BEFORE):]
            self.assertEqual(told[0] != [-71], place <= 63)
            self.assertEqual(told[1] != [-71], place >= 1)
            self.assertEqual(told[2] != [-71], place <= 63)
            self.assertEqual(told[3] != [-71], place == 255)


class GoodTest(unittest.TestCase):
    def check(self, good, said, *calls):
        """That a card that says this is told so behind these calls, good or not."""
        self.assertEqual(last_of(*BEFORE, *calls, whose(card(*said))), [good] + list(said))

    def test_each_card_made_is_good(self):
        told = [last_of(*BEFORE, whose(each)) for each in CARDS]
        self.assertEqual(told, [
            [1, GUEST, 0, 1, 20, 0], [1, SHUTTING, 1, 1, 10, 1], [1, STAFF, 3, 1, 12, 2], [1, EMERGENCY, 255, 1, 13, 3],
        ])

    def test_a_guests(self):
        said = (GUEST, 0, 1, 20, 0)
        self.check(1, said)
        self.check(1, said, copy(0))
        self.check(1, said, longer(0, 30))
        self.check(1, said, day(20))
        self.check(0, said, day(21))
        self.check(0, said, leave(0))
        self.check(0, said, lost(0))
        self.check(0, said, leave(0), come(0, 20))
        self.check(0, said, leave(0), shut(0))
        self.check(1, said, recall())

    def test_a_guests_before_its_stay_was_made_longer(self):
        self.check(1, (GUEST, 0, 1, 20, 0), longer(0, 30), day(20))
        self.check(0, (GUEST, 0, 1, 20, 0), longer(0, 30), day(21))
        self.check(1, (GUEST, 0, 1, 30, 4), longer(0, 30), day(30))
        self.check(0, (GUEST, 0, 1, 30, 4), longer(0, 30), day(31))

    def test_a_guests_of_other_numbers(self):
        self.check(0, (GUEST, 0, 0, 20, 0))
        self.check(0, (GUEST, 0, 2, 20, 0))
        self.check(0, (GUEST, 0, 257, 20, 0))
        self.check(0, (GUEST, 1, 1, 20, 0))
        self.check(1, (GUEST, 0, 1, 20, 777))
        self.check(1, (GUEST, 0, 1, MOST, 0))
        self.check(0, (GUEST, 0, 1, 9, 0))

    def test_a_room_that_the_desk_does_not_have(self):
        for place in (2, 3, 63):
            for kind in (GUEST, SHUTTING):
                for number in (0, 1):
                    self.check(0, (kind, place, number, 20, 0))

    def test_one_that_shuts(self):
        said = (SHUTTING, 1, 1, 10, 1)
        self.check(1, said)
        self.check(0, said, day(11))
        self.check(0, said, shut(1))
        self.check(0, said, come(1, 15))
        self.check(1, said, recall())
        self.check(0, (SHUTTING, 1, 2, 10, 1))
        self.check(0, (SHUTTING, 1, 0, 10, 1))

    def test_one_that_shuts_needs_no_stay_and_minds_none(self):
        self.check(1, (SHUTTING, 0, 1, 20, 0))
        self.check(1, (SHUTTING, 0, 1, 20, 0), leave(0))

    def test_staffs(self):
        said = (STAFF, 3, 1, 12, 2)
        self.check(1, said)
        self.check(1, said, day(12))
        self.check(0, said, day(13))
        self.check(0, said, recall())
        self.check(0, (STAFF, 3, 0, 12, 2))
        self.check(0, (STAFF, 3, 2, 12, 2))
        self.check(1, (STAFF, 255, 1, 12, 2))
        self.check(1, said, lost(0))

    def test_an_emergencys(self):
        said = (EMERGENCY, 255, 1, 13, 3)
        self.check(1, said)
        self.check(1, said, day(13))
        self.check(0, said, day(14))
        self.check(0, said, recall())
        self.check(0, (EMERGENCY, 255, 0, 13, 3))
        self.check(0, (EMERGENCY, 255, 2, 13, 3))

    def test_numbers_of_two_bytes(self):
        self.check(0, (GUEST, 63, 258, 772, 1286))
        self.check(0, (STAFF, 128, MOST, MOST, MOST))
        self.check(0, (EMERGENCY, 255, MOST, MOST - 1, MOST - 2))

    def test_it_changes_nothing(self):
        behind = [copy(0), shut(1), staff(1, 10), recall(), need(10)]
        asked = [whose(each) for each in CARDS]
        self.assertEqual(ask(*BEFORE, *asked, *behind)[-5:], ask(*BEFORE, *behind)[-5:])


if __name__ == "__main__":
    unittest.main()
