"""What the calls of one list work on: a field and a card."""

from notchcards.tables import first_field


class Card:
    """A card of the field: the state it is in, and how many changes were made."""

    def __init__(self):
        self.state = 0
        self.changes = 0


class Desk:
    """The field and the card, at first as at a line's beginning."""

    def __init__(self):
        self.field = first_field()
        self.card = Card()

    def lay(self, field):
        """Take another field, and a new card with it."""
        self.field = field
        self.card = Card()
