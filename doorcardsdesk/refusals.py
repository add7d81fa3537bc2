"""The numbers that stand for refusals."""

NO_ROOM = -2
NO_STAY = -6
HAS_STAY = -15
WRONG = -22
NO_MORE = -28
NO_HOUSE = -61
NO_CARD = -71
