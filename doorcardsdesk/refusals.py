"""The numbers that stand for refusals; some say one thing at the desk and another at a door."""

NO_ROOM = -2
NO_DOOR = -2
NO_STAY = -6
NOT_KEPT = -6
ELSEWHERE = -13
HAS_STAY = -15
BOLTED = -15
HAS_DOOR = -17
OLDER = -17
WRONG = -22
NO_MORE = -28
DAY_OVER = -34
NO_HOUSE = -61
NO_CARD = -71
