"""A house of doors: the desk that makes the cards, the doors that they open, and what the cards say."""
