"""What the calls of one list work on: a field and a card."""

from notchcards.refusals import HoleNotched, NotAsked, WithoutWay
from notchcards.tables import NO_WAY, first_field


class Card:
    """A card of the field: the state it is in, and how many changes were made."""

    def __init__(self, field):
        self.field = field
        self.state = 0
        self.changes = 0

    def change(self, value):
        """Go to the best way's state, if the card doesn't tell the value already."""
        if self.field.table[self.state] == value:
            return
        if value not in self.field.asked(self.state):
            raise NotAsked()
        way = self.field.best[self.state][value]
        if way == NO_WAY:
            raise WithoutWay()
        self.state = way
        self.changes += 1

    def notch(self, hole):
        """Notch the hole by hand."""
        if (self.state >> hole) & 1 == 1:
            raise HoleNotched()
        self.state += 1 << hole


class Desk:
    """The field and the card, at first as at a line's beginning."""

    def __init__(self):
        self.field = first_field()
        self.card = Card(self.field)

    def lay(self, field):
        """Take another field, and a new card with it."""
        self.field = field
        self.renew()

    def renew(self):
        """Take a new card of the same field."""
        self.card = Card(self.field)
