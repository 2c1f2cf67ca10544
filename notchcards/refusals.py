"""The refusals: an error class for each, which bears the number that is answered."""


class Refusal(Exception):
    """What every refusal has: the number that is answered alone."""

    def __init__(self, number):
        self.number = number


class NotBytes(Refusal):
    """A number of a text isn't from 0 to 255."""

    def __init__(self):
        Refusal.__init__(self, -1)


class OutOfRange(Refusal):
    """A whole number isn't in the range that's told."""

    def __init__(self):
        Refusal.__init__(self, -3)


class BadList(Refusal):
    """A list isn't as it is told."""

    def __init__(self):
        Refusal.__init__(self, -4)


class NotThere(Refusal):
    """The field has no such state, value or hole."""

    def __init__(self):
        Refusal.__init__(self, -5)


class NotAsked(Refusal):
    """The value may not be asked in the card's state."""

    def __init__(self):
        Refusal.__init__(self, -6)


class HoleNotched(Refusal):
    """The card's hole is notched already."""

    def __init__(self):
        Refusal.__init__(self, -6)


class WithoutWay(Refusal):
    """There's no way from the card's state to the value."""

    def __init__(self):
        Refusal.__init__(self, -7)


class TooManyTables(Refusal):
    """There are more tables than are gone through."""

    def __init__(self):
        Refusal.__init__(self, -9)


class Fault(Refusal):
    """A text has a word that can't stand where it stands, or words are missing at its end."""

    def __init__(self, place):
        Refusal.__init__(self, -1000 - place)
        self.place = place
