"""A house of doors: the desk that makes the cards, and what the cards say."""
