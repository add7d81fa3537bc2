"""The desk, its rooms, and which cards it calls good."""

from doorcardsdesk.cards import EMERGENCY, GUEST, STAFF

# Numbers, days, the round and the count of cards each have two bytes on a card.
MOST = 65535


class Room:
    """A room as the desk knows it; its stay is the stay's last day, or None."""

    def __init__(self, zone):
        self.zone = zone
        self.number = 0
        self.stay = None


class Desk:
    """The house's key, and all that the desk keeps count of."""

    def __init__(self, key):
        self.key = key
        self.day = 0
        self.staff_round = 0
        self.serial = 0
        self.rooms = []


def is_day_from(first, day):
    """Whether the day is not before the first, and can stand on a card."""
    return first <= day <= MOST


def bears_out(room, card):
    """Whether the room's number, and for a guest its stay, bear out the card."""
    if card.kind == GUEST and room.stay is None:
        return False
    return card.number == room.number


def is_good(desk, card):
    if card.last < desk.day:
        return False
    if card.kind == STAFF or card.kind == EMERGENCY:
        return card.number == desk.staff_round
    # A rightly tagged card may be of a room that this desk doesn't have.
    if card.place >= len(desk.rooms):
        return False
    return bears_out(desk.rooms[card.place], card)
