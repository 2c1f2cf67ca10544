"""Fields of notched cards: which changes of value a table of notches bears."""
