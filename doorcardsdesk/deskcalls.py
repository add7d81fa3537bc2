"""The calls that the desk answers, each as a function of the house and what is given."""

from doorcardsdesk.cards import ALL_ZONES, EMERGENCY, EVERYWHERE, GUEST, MOST_ROOMS, SHUTTING, STAFF
from doorcardsdesk.cards import Card, card_octets, read_card
from doorcardsdesk.desk import MOST, Room, is_day_from, is_good
from doorcardsdesk.refusals import HAS_STAY, NO_CARD, NO_MORE, NO_ROOM, NO_STAY, WRONG

CARDS_KEPT = 64
LAST_ZONE = 7


def make_card(house, kind, place, number, last):
    """Makes the card and keeps it among the house's last; answers its serial number, then the card."""
    desk = house.desk
    serial = desk.serial
    octets = card_octets(desk.key, Card(kind, place, number, last, serial))
    desk.serial = serial + 1
    house.cards = [octets] + house.cards[:CARDS_KEPT - 1]
    return [serial] + octets


def guest_card(house, place):
    room = house.desk.rooms[place]
    return make_card(house, GUEST, place, room.number, room.stay)


def no_more_cards(house):
    return house.desk.serial >= MOST


def no_newer_card(house, room):
    """Whether no card with a new number of the room can be made."""
    return no_more_cards(house) or room.number >= MOST


def add_room(house, given):
    zone = given[0]
    rooms = house.desk.rooms
    if zone > LAST_ZONE:
        return [WRONG]
    if len(rooms) >= MOST_ROOMS:
        return [NO_MORE]
    rooms.append(Room(zone))
    return [len(rooms) - 1]


def set_day(house, given):
    day = given[0]
    desk = house.desk
    if not is_day_from(desk.day, day):
        return [WRONG]
    desk.day = day
    over = [room for room in desk.rooms if room.stay is not None and room.stay < day]
    for room in over:
        room.stay = None
    return [len(over)]


def come(house, given):
    room = house.desk.rooms[given[0]]
    last = given[1]
    if not is_day_from(house.desk.day, last):
        return [WRONG]
    if room.stay is not None:
        return [HAS_STAY]
    if no_newer_card(house, room):
        return [NO_MORE]
    room.stay = last
    room.number = room.number + 1
    return guest_card(house, given[0])


def copy_card(house, given):
    if house.desk.rooms[given[0]].stay is None:
        return [NO_STAY]
    if no_more_cards(house):
        return [NO_MORE]
    return guest_card(house, given[0])


def replace_lost(house, given):
    room = house.desk.rooms[given[0]]
    if room.stay is None:
        return [NO_STAY]
    if no_newer_card(house, room):
        return [NO_MORE]
    room.number = room.number + 1
    return guest_card(house, given[0])


def stay_longer(house, given):
    room = house.desk.rooms[given[0]]
    last = given[1]
    if room.stay is None:
        return [NO_STAY]
    if not is_day_from(room.stay, last):
        return [WRONG]
    if no_more_cards(house):
        return [NO_MORE]
    room.stay = last
    return guest_card(house, given[0])


def leave(house, given):
    room = house.desk.rooms[given[0]]
    if room.stay is None:
        return [NO_STAY]
    room.stay = None
    return [0]


def shut_room(house, given):
    room = house.desk.rooms[given[0]]
    if room.stay is not None:
        return [HAS_STAY]
    if no_newer_card(house, room):
        return [NO_MORE]
    room.number = room.number + 1
    return make_card(house, SHUTTING, given[0], room.number, house.desk.day)


def staff_card(house, given):
    zones = given[0]
    last = given[1]
    if zones < 1 or zones > ALL_ZONES or not is_day_from(house.desk.day, last):
        return [WRONG]
    if no_more_cards(house):
        return [NO_MORE]
    return make_card(house, STAFF, zones, house.desk.staff_round, last)


def recall_staff(house, given):
    desk = house.desk
    if desk.staff_round >= MOST:
        return [NO_MORE]
    desk.staff_round = desk.staff_round + 1
    return [desk.staff_round]


def emergency_card(house, given):
    last = given[0]
    if not is_day_from(house.desk.day, last):
        return [WRONG]
    if no_more_cards(house):
        return [NO_MORE]
    return make_card(house, EMERGENCY, EVERYWHERE, house.desk.staff_round, last)


def tell_whose(house, given):
    desk = house.desk
    card = read_card(desk.key, given[0])
    if card is None:
        return [NO_CARD]
    good = 1 if is_good(desk, card) else 0
    return [good, card.kind, card.place, card.number, card.last, card.serial]


def tell_stay(house, given):
    room = house.desk.rooms[given[0]]
    if room.stay is None:
        return [NO_STAY]
    return [room.stay, room.number, room.zone]


def tell_free(house, given):
    free = [place for place, room in enumerate(house.desk.rooms) if room.stay is None]
    return [len(free)] + free


def tell_desk(house, given):
    desk = house.desk
    stays = [room.stay for room in desk.rooms if room.stay is not None]
    return [len(desk.rooms), len(stays), desk.day, desk.staff_round, desk.serial]


CALLS_OF_A_ROOM = (3, 4, 5, 6, 7, 8, 13)

DESK_CALLS = {
    1: add_room,
    2: set_day,
    3: come,
    4: copy_card,
    5: replace_lost,
    6: stay_longer,
    7: leave,
    8: shut_room,
    9: staff_card,
    10: recall_staff,
    11: emergency_card,
    12: tell_whose,
    13: tell_stay,
    14: tell_free,
    15: tell_desk,
}


def desk_answer(house, call, given):
    """What the desk answers to the call of this number, as one list."""
    if call in CALLS_OF_A_ROOM and given[0] >= len(house.desk.rooms):
        return [NO_ROOM]
    answer = DESK_CALLS[call]
    return answer(house, given)
