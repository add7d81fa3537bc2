"""The calls on the doors and on the kept cards, each as a function of the house and what is given."""

from doorcardsdesk.cards import read_card
from doorcardsdesk.desk import is_day_from
from doorcardsdesk.deskcalls import set_day
from doorcardsdesk.door import Door, show_card, verdict
from doorcardsdesk.refusals import HAS_DOOR, NO_CARD, NO_DOOR, NO_MORE, NO_ROOM, NOT_KEPT, WRONG

MOST_DOORS = 16


def hang(house, given):
    place = given[0]
    rooms = house.desk.rooms
    if place >= len(rooms):
        return [NO_ROOM]
    if place in [door.room for door in house.doors]:
        return [HAS_DOOR]
    if len(house.doors) >= MOST_DOORS:
        return [NO_MORE]
    house.doors.append(Door(house.desk.key, place, rooms[place].zone))
    return [len(house.doors) - 1]


def set_door_day(house, given):
    door = house.doors[given[0]]
    if not is_day_from(door.day, given[1]):
        return [WRONG]
    door.day = given[1]
    return [0]


def try_card(house, given):
    door = house.doors[given[0]]
    card = read_card(door.key, given[1])
    return [NO_CARD if card is None else show_card(door, card)]


def weigh_card(house, given):
    door = house.doors[given[0]]
    card = read_card(door.key, given[1])
    return [NO_CARD if card is None else verdict(door, card)]


def try_kept_card(house, given):
    if given[1] >= len(house.cards):
        return [NOT_KEPT]
    return try_card(house, [given[0], house.cards[given[1]]])


def tell_kept_card(house, given):
    if given[0] >= len(house.cards):
        return [NOT_KEPT]
    octets = house.cards[given[0]]
    return [len(octets)] + octets


def set_bolt(house, given):
    if given[1] > 1:
        return [WRONG]
    house.doors[given[0]].bolted = given[1] == 1
    return [0]


def tell_book(house, given):
    book = house.doors[given[0]].book
    if given[1] >= len(book):
        return [NOT_KEPT]
    return list(book[given[1]])


def tell_door(house, given):
    door = house.doors[given[0]]
    bolted = 1 if door.bolted else 0
    return [bolted, door.room, door.zone, door.day, door.number, door.staff_round, len(door.book)]


def set_day_everywhere(house, given):
    answer = set_day(house, given)
    if answer[0] < 0:
        return answer
    for door in house.doors:
        # A door may be ahead of the desk, and no door goes back.
        door.day = max(door.day, given[0])
    return answer


CALLS_OF_A_DOOR = (17, 18, 19, 20, 22, 23, 24)

DOOR_CALLS = {
    16: hang,
    17: set_door_day,
    18: try_card,
    19: weigh_card,
    20: try_kept_card,
    21: tell_kept_card,
    22: set_bolt,
    23: tell_book,
    24: tell_door,
    25: set_day_everywhere,
}


def door_answer(house, call, given):
    """What is answered to the call of this number, on a door or the kept cards, as one list."""
    if call in CALLS_OF_A_DOOR and given[0] >= len(house.doors):
        return [NO_DOOR]
    answer = DOOR_CALLS[call]
    return answer(house, given)
