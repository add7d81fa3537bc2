"""A door, what it does when it is shown a card, and its book."""

from doorcardsdesk.cards import EMERGENCY, GUEST, SHUTTING, STAFF
from doorcardsdesk.refusals import BOLTED, DAY_OVER, ELSEWHERE, OLDER

BOOK_KEPT = 16


class Door:
    """A door that was hung; its book holds the last cards that it took, the last first."""

    def __init__(self, key, room, zone):
        self.key = key
        self.room = room
        self.zone = zone
        self.day = 0
        self.number = 0
        self.staff_round = 0
        self.bolted = False
        self.book = []


def goes_by_room(card):
    """Whether the card's place is a room, and its number that room's; else its number is the round."""
    return card.kind == GUEST or card.kind == SHUTTING


def is_for(door, card):
    if goes_by_room(card):
        return card.place == door.room
    if card.kind == STAFF:
        return (card.place >> door.zone) & 1 == 1
    return True


def learned_for(door, card):
    """The number that the door has learned from cards that go by the same as this one."""
    if goes_by_room(card):
        return door.number
    return door.staff_round


def is_stopped_by_bolt(card):
    return card.kind == GUEST or card.kind == STAFF


def verdict(door, card):
    """What the door answers to the card; nothing is done yet."""
    if not is_for(door, card):
        return ELSEWHERE
    if card.last < door.day:
        return DAY_OVER
    if card.number < learned_for(door, card):
        return OLDER
    if door.bolted and is_stopped_by_bolt(card):
        return BOLTED
    # The answers to a card that is taken, 1 to 4, are the numbers of the kinds.
    return card.kind


def learn(door, card):
    """What the door does with a card that it takes."""
    if goes_by_room(card):
        door.number = card.number
    else:
        door.staff_round = card.number
    if card.kind == EMERGENCY:
        door.bolted = False
    written = (card.kind, card.number, card.serial, door.day)
    door.book = [written] + door.book[:BOOK_KEPT - 1]


def show_card(door, card):
    """Shows the door the card: what it answers, behind having done it."""
    answer = verdict(door, card)
    if answer > 0:
        learn(door, card)
    return answer
