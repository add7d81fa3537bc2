"""A card, its kinds, and the 16 bytes that it is."""

from doorcardsdesk.tag import number_of, octets_of, tag_of

GUEST = 1
STAFF = 2
SHUTTING = 3
EMERGENCY = 4

MOST_ROOMS = 64
ALL_ZONES = 255
EVERYWHERE = 255


class Card:
    """What a card says ahead of its tag."""

    def __init__(self, kind, place, number, last, serial):
        self.kind = kind
        self.place = place
        self.number = number
        self.last = last
        self.serial = serial


def card_octets(key, card):
    """The card's 16 bytes, with the tag by this key."""
    said = [card.kind, card.place]
    said.extend(octets_of(card.number, 2))
    said.extend(octets_of(card.last, 2))
    said.extend(octets_of(card.serial, 2))
    return said + tag_of(key, said)


def is_place_of_kind(kind, place):
    """Whether there is such a kind, and its cards can have this place."""
    if kind == GUEST or kind == SHUTTING:
        return place < MOST_ROOMS
    if kind == STAFF:
        return 1 <= place <= ALL_ZONES
    return kind == EMERGENCY and place == EVERYWHERE


def read_card(key, octets):
    """The card that these bytes are, or None if they are none with the right tag."""
    if len(octets) != 16:
        return None
    said = octets[:8]
    # A right tag doesn't make a card of bytes that no kind describes: nobody could say what it opens.
    if octets[8:] != tag_of(key, said) or not is_place_of_kind(said[0], said[1]):
        return None
    return Card(said[0], said[1], number_of(said[2:4]), number_of(said[4:6]), number_of(said[6:8]))
