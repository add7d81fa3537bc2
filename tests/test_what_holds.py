"""What the document says holds, a to e, over mixed calls."""

import collections
import random
import unittest

from helper import (
    EMERGENCY, GUEST, SHUTTING, STAFF, ask, desk, door, doorday, everywhere, mixed_calls, stay, whose, would,
)

OPEN, SHOW, CARDS_MADE_BY = 18, 20, (3, 4, 5, 6, 8, 9, 11)

Card = collections.namedtuple("Card", "kind place number last serial octets")
Door = collections.namedtuple("Door", "bolted room zone day number round written")


def read(octets):
    """What a card says ahead of its tag."""
    pairs = [octets[n] + 256 * octets[n + 1] for n in (2, 4, 6)]
    return Card(octets[0], octets[1], *pairs, tuple(octets))


def by_the_round(card):
    return card.kind in (STAFF, EMERGENCY)


def is_own(at, card):
    """Whether the door is one that the card is for."""
    if card.kind == STAFF:
        return at.zone in [zone for zone in range(8) if card.place & 2 ** zone]
    return card.kind == EMERGENCY or card.place == at.room


class House:
    """Mixed calls, with what was made and taken, and what desk and doors tell behind them."""

    def __init__(self, calls):
        # Only what the desk made is shown: cards that it never made are not what these promises speak of.
        self.calls = [call for call in calls if call[0] != OPEN]
        told = ask(*self.calls)
        self.made, self.taken = [], []
        for call, part in zip(self.calls, told):
            if call[0] in CARDS_MADE_BY and part[0] >= 0:
                self.made.append(read(part[1:]))
            if call[0] == SHOW and part[0] > 0:
                self.taken.append((call[1], self.made[-1 - call[2]], part[0]))
        asked = ask(*self.calls, desk(), *[stay(n) for n in range(64)], *[door(n) for n in range(16)])[-81:]
        self.day, self.round = asked[0][2], asked[0][3]
        self.stays = {n: part for n, part in enumerate(asked[1:65]) if part[0] >= 0}
        self.doors = {n: Door(*part) for n, part in enumerate(asked[65:]) if part[0] >= 0}
        self.ask_of_cards()

    def ask_of_cards(self):
        """Of each of the cards made last: whether it's good, and what each door would answer."""
        self.cards = self.made[-20:]
        asked = [whose(card.octets) for card in self.cards]
        asked += [would(n, card.octets) for n in self.doors for card in self.cards]
        told = [part[0] for part in ask(*self.calls, *asked)[len(self.calls):]]
        self.good = [card for card, good in zip(self.cards, told) if good]
        pairs = [(n, card) for n in self.doors for card in self.cards]
        self.would = dict(zip(pairs, told[len(self.cards):]))

    def rooms_number(self, room):
        # Whatever makes a room's number one more makes a card of that number.
        return max([card.number for card in self.made if not by_the_round(card) and card.place == room], default=0)


class HoldsTest(unittest.TestCase):
    @classmethod
    def setUpClass(cls):
        chance = random.Random(7)
        cls.houses = []
        for time in range(180):
            pace = chance.choice((12, 40))
            calls = mixed_calls(chance, chance.randrange(20, 200), pace)
            now = len(calls) // pace
            # Desk and doors are mostly on one day in some houses, and doors are ahead of the desk in others.
            ends = ([], [everywhere(now + 2)], [doorday(0, now + 6), doorday(1, now + 12)])
            cls.houses.append(House(calls + ends[time % 3]))

    def check_met(self, met, least):
        self.assertGreaterEqual(met, least, "too few cases to show anything")

    def test_a_the_newest_stays_card_opens_its_rooms_door(self):
        met = collections.Counter()
        for house in self.houses:
            for n, at in house.doors.items():
                guests = [card for card in house.cards if card.kind == GUEST and card.place == at.room]
                if at.room in house.stays and guests:
                    want = -34 if guests[-1].last < at.day else -15 if at.bolted else 1
                    self.assertEqual(house.would[n, guests[-1]], want)
                    met[want, guests[-1].number > at.number] += 1
        self.check_met(met[1, True], 10)
        self.check_met(met[1, False], 10)
        self.check_met(met[-15, True] + met[-15, False], 5)
        self.check_met(met[-34, True] + met[-34, False], 5)

    def test_b_behind_a_newer_card_an_older_one_never_opens(self):
        met = collections.Counter()
        for house in self.houses:
            newest = {}
            for n, card, answer in house.taken:
                self.assertEqual(answer, card.kind)
                self.assertGreaterEqual(card.number, newest.get((n, by_the_round(card)), 0))
                newest[n, by_the_round(card)] = card.number
            for (n, card), answer in house.would.items():
                if card.number < newest.get((n, by_the_round(card)), 0):
                    self.assertLess(answer, 0)
                    met[card.kind, answer] += 1
        for kind in (GUEST, STAFF, EMERGENCY):
            self.check_met(met[kind, -17], 5)

    def test_c_each_rooms_door_opens_to_its_own_guests_alone(self):
        met = collections.Counter()
        for house in self.houses:
            for (n, card), answer in house.would.items():
                own = card.place == house.doors[n].room
                if card.kind == GUEST and not own:
                    self.assertEqual(answer, -13)
                if card.kind == GUEST:
                    met[own, answer] += 1
            for n, card, answer in house.taken:
                if answer in (1, 3):
                    self.assertEqual(card.place, house.doors[n].room)
        self.check_met(met[True, 1], 20)
        self.check_met(met[False, -13], 20)

    def test_d_what_the_desk_says_is_good_opens(self):
        met = collections.Counter()
        for house in self.houses:
            for n, at in house.doors.items():
                if at.day == house.day and not at.bolted:
                    for card in house.good:
                        if is_own(at, card):
                            self.assertEqual(house.would[n, card], card.kind)
                            met[card.kind] += 1
        for kind in (GUEST, SHUTTING, STAFF, EMERGENCY):
            self.check_met(met[kind], 5)

    def test_e_doors_never_know_more_than_the_desk(self):
        met = collections.Counter()
        for house in self.houses:
            for at in house.doors.values():
                known = house.rooms_number(at.room)
                self.assertLessEqual(at.number, known)
                self.assertLessEqual(at.round, house.round)
                met[at.number < known, at.round < house.round] += 1
                met["learned"] += at.number > 0 and at.round > 0
        self.assertEqual(len(met), 5)
        self.check_met(met["learned"], 10)

    def test_e_what_is_refused_changes_nothing(self):
        for house in self.houses:
            told = ask(*house.calls)
            left = [(call, part) for call, part in zip(house.calls, told) if part[0] >= 0]
            telling = [desk()] + [door(n) for n in range(16)]
            behind = ask(*[call for call, part in left], *telling)
            self.assertEqual(behind, [part for call, part in left] + ask(*house.calls, *telling)[-17:])


if __name__ == "__main__":
    unittest.main()
