"""The house, and the answers to a list of calls on it."""

from doorcardsdesk.desk import Desk
from doorcardsdesk.deskcalls import desk_answer
from doorcardsdesk.doorcalls import door_answer
from doorcardsdesk.refusals import NO_HOUSE, WRONG

BEGIN = 0
FIRST_DOOR_CALL = 16
KEY_LENGTH = 16

# By a call's number: how many whole numbers are given to it, and then how many rows.
LAYOUT = (
    (0, 1),
    (1, 0),
    (1, 0),
    (2, 0),
    (1, 0),
    (1, 0),
    (2, 0),
    (1, 0),
    (1, 0),
    (2, 0),
    (0, 0),
    (1, 0),
    (0, 1),
    (1, 0),
    (0, 0),
    (0, 0),
    (1, 0),
    (2, 0),
    (1, 1),
    (1, 1),
    (2, 0),
    (1, 0),
    (2, 0),
    (2, 0),
    (1, 0),
    (1, 0),
)


class House:
    """A desk, the doors that were hung, and the last cards that the desk made, the last first."""

    def __init__(self, key):
        self.desk = Desk(key)
        self.doors = []
        self.cards = []


class Ground:
    """What the calls are made on: a house stands on it, or none does."""

    def __init__(self):
        self.house = None


class Reader:
    """Goes through a list of calls, which it only reads."""

    def __init__(self, calls):
        self.calls = calls
        self.at = 0

    def has_more(self):
        return self.at < len(self.calls)

    def take_number(self):
        number = self.calls[self.at]
        self.at = self.at + 1
        return number

    def take_row(self):
        length = self.take_number()
        row = self.calls[self.at:self.at + length]
        self.at = self.at + length
        return row


def take_given(reader, call):
    """What is given to the call: its whole numbers, then its rows."""
    layout = LAYOUT[call]
    given = []
    for place in range(layout[0]):
        given.append(reader.take_number())
    for place in range(layout[1]):
        given.append(reader.take_row())
    return given


def begin(ground, given):
    key = given[0]
    if len(key) != KEY_LENGTH:
        return [WRONG]
    ground.house = House(key)
    return [0]


def answer_to(ground, call, given):
    if call == BEGIN:
        return begin(ground, given)
    if ground.house is None:
        return [NO_HOUSE]
    if call < FIRST_DOOR_CALL:
        return desk_answer(ground.house, call, given)
    return door_answer(ground.house, call, given)


def answers(calls):
    """For each call, in order: how many numbers are answered, then these."""
    ground = Ground()
    reader = Reader(calls)
    told = []
    while reader.has_more():
        call = reader.take_number()
        answer = answer_to(ground, call, take_given(reader, call))
        told.append(len(answer))
        told.extend(answer)
    return told
