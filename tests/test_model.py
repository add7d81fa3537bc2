"""The program beside a plain model of the document, over mixed calls."""

import random
import unittest

from helper import KEY, MOST, OTHER_KEY, ask, begin, card, mixed_calls, siphash


class Refused(Exception):
    pass


def refuse_if(number, wrong):
    if wrong:
        raise Refused(number)


class Model:
    """The document's words over dicts, written apart from the program; one method a call, in the document's order."""

    def __init__(self):
        self.key = None

    def ask(self, call):
        names = (
            "begin room day come copy lost longer leave shut staff recall need whose stay free desk hang doorday open "
            "would show card bolt book door all"
        ).split()
        name = names[call[0]]
        given = list(call[1:])
        if name in ("begin", "whose"):
            given = [given[1:]]
        elif name in ("open", "would"):
            given = [given[0], given[2:]]
        try:
            refuse_if(-61, self.key is None and name != "begin")
            if name in ("come", "copy", "lost", "longer", "leave", "shut", "stay", "hang"):
                refuse_if(-2, given[0] >= len(self.rooms))
                given[0] = self.rooms[given[0]]
            if name in ("doorday", "open", "would", "show", "bolt", "book", "door"):
                refuse_if(-2, given[0] >= len(self.doors))
                given[0] = self.doors[given[0]]
            return getattr(self, "call_" + name)(*given)
        except Refused as refused:
            return [refused.args[0]]

    def make(self, kind, place, number, last):
        self.cards.append(card(kind, place, number, last, len(self.cards), self.key))
        return [len(self.cards) - 1] + self.cards[-1]

    def guests(self, room):
        return self.make(1, room["n"], room["number"], room["stay"])

    def check_new_card(self, number=0):
        refuse_if(-28, len(self.cards) == MOST or number == MOST)

    def call_begin(self, key):
        refuse_if(-22, len(key) != 16)
        self.key, self.today, self.round, self.rooms, self.doors, self.cards = key, 0, 0, [], [], []
        return [0]

    def call_room(self, zone):
        refuse_if(-22, zone > 7)
        refuse_if(-28, len(self.rooms) == 64)
        self.rooms.append({"n": len(self.rooms), "zone": zone, "number": 0, "stay": None})
        return [len(self.rooms) - 1]

    def call_day(self, d):
        refuse_if(-22, d < self.today or d > MOST)
        self.today = d
        over = [room for room in self.rooms if room["stay"] is not None and room["stay"] < d]
        for room in over:
            room["stay"] = None
        return [len(over)]

    def call_come(self, room, last):
        refuse_if(-22, last < self.today or last > MOST)
        refuse_if(-15, room["stay"] is not None)
        self.check_new_card(room["number"])
        room["stay"] = last
        room["number"] += 1
        return self.guests(room)

    def call_copy(self, room):
        refuse_if(-6, room["stay"] is None)
        self.check_new_card()
        return self.guests(room)

    def call_lost(self, room):
        refuse_if(-6, room["stay"] is None)
        self.check_new_card(room["number"])
        room["number"] += 1
        return self.guests(room)

    def call_longer(self, room, last):
        refuse_if(-6, room["stay"] is None)
        refuse_if(-22, last < room["stay"] or last > MOST)
        self.check_new_card()
        room["stay"] = last
        return self.guests(room)

    def call_leave(self, room):
        refuse_if(-6, room["stay"] is None)
        room["stay"] = None
        return [0]

    def call_shut(self, room):
        refuse_if(-15, room["stay"] is not None)
        self.check_new_card(room["number"])
        room["number"] += 1
        return self.make(3, room["n"], room["number"], self.today)

    def call_staff(self, zones, last):
        refuse_if(-22, not 1 <= zones <= 255 or last < self.today or last > MOST)
        self.check_new_card()
        return self.make(2, zones, self.round, last)

    def call_recall(self):
        refuse_if(-28, self.round == MOST)
        self.round += 1
        return [self.round]

    def call_need(self, last):
        refuse_if(-22, last < self.today or last > MOST)
        self.check_new_card()
        return self.make(4, 255, self.round, last)

    def read(self, octets):
        refuse_if(-71, len(octets) != 16 or octets[8:] != siphash(self.key, octets[:8]))
        kind, place = octets[:2]
        places = {1: range(64), 2: range(1, 256), 3: range(64), 4: (255,)}
        refuse_if(-71, place not in places.get(kind, ()))
        return [kind, place] + [int.from_bytes(bytes(octets[n:n + 2]), "little") for n in (2, 4, 6)]

    def call_whose(self, octets):
        kind, place, number, last, serial = self.read(octets)
        if kind in (2, 4):
            good = number == self.round
        else:
            room = self.rooms[place] if place < len(self.rooms) else None
            good = room is not None and room["number"] == number and (kind == 3 or room["stay"] is not None)
        return [int(good and last >= self.today), kind, place, number, last, serial]

    def call_stay(self, room):
        refuse_if(-6, room["stay"] is None)
        return [room["stay"], room["number"], room["zone"]]

    def call_free(self):
        numbers = [room["n"] for room in self.rooms if room["stay"] is None]
        return [len(numbers)] + numbers

    def call_desk(self):
        stays = len(self.rooms) - self.call_free()[0]
        return [len(self.rooms), stays, self.today, self.round, len(self.cards)]

    def call_hang(self, room):
        refuse_if(-17, any(door["room"] == room["n"] for door in self.doors))
        refuse_if(-28, len(self.doors) == 16)
        self.doors.append({
            "bolted": 0, "room": room["n"], "zone": room["zone"], "day": 0, "number": 0, "round": 0, "book": [],
        })
        return [len(self.doors) - 1]

    def call_doorday(self, door, d):
        refuse_if(-22, d < door["day"] or d > MOST)
        door["day"] = d
        return [0]

    def call_open(self, door, octets):
        kind, place, number, last, serial = self.read(octets)
        learned = "number" if kind in (1, 3) else "round"
        refuse_if(-13, kind in (1, 3) and place != door["room"])
        refuse_if(-13, kind == 2 and place // 2 ** door["zone"] % 2 == 0)
        refuse_if(-34, last < door["day"])
        refuse_if(-17, number < door[learned])
        refuse_if(-15, kind in (1, 2) and door["bolted"] == 1)
        door[learned] = number
        if kind == 4:
            door["bolted"] = 0
        door["book"] = ([[kind, number, serial, door["day"]]] + door["book"])[:16]
        return [kind]

    def call_would(self, door, octets):
        return self.call_open(dict(door), octets)

    def call_show(self, door, k):
        return self.call_open(door, self.call_card(k)[1:])

    def call_card(self, k):
        refuse_if(-6, k >= len(self.cards[-64:]))
        return [16] + self.cards[-1 - k]

    def call_bolt(self, door, on):
        refuse_if(-22, on > 1)
        door["bolted"] = on
        return [0]

    def call_book(self, door, k):
        refuse_if(-6, k >= len(door["book"]))
        return door["book"][k]

    def call_door(self, door):
        return [door[name] for name in ("bolted", "room", "zone", "day", "number", "round")] + [len(door["book"])]

    def call_all(self, d):
        told = self.call_day(d)
        for door in self.doors:
            door["day"] = max(d, door["day"])
        return told


def with_other_begins(chance, calls):
    """The calls with some before any begin, and a begin in their midst now and then, refused or not."""
    mixed = calls[-3:] + calls
    for n in range(chance.randrange(4)):
        key = chance.choice((KEY, OTHER_KEY, KEY[:15], KEY + KEY, []))
        mixed.insert(chance.randrange(len(mixed) + 1), begin(key))
    return mixed


class ModelTest(unittest.TestCase):
    def check(self, calls):
        model = Model()
        for n, (call, told) in enumerate(zip(calls, ask(*calls))):
            self.assertEqual(told, model.ask(call), f"call {n}: {call}")

    def test_mixed_calls(self):
        chance = random.Random(11)
        for time in range(150):
            self.check(mixed_calls(chance, chance.randrange(1, 250)))

    def test_with_begins_in_their_midst(self):
        chance = random.Random(12)
        for time in range(150):
            self.check(with_other_begins(chance, mixed_calls(chance, chance.randrange(1, 120))))

    def test_a_long_list(self):
        self.check(mixed_calls(random.Random(13), 4994))


if __name__ == "__main__":
    unittest.main()
