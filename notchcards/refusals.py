"""The refusals: an error class for each, which bears the number that is answered."""


class Refusal(Exception):
    """What every refusal has: the number that is answered alone."""

    def __init__(self, number):
        self.number = number


class NotBytes(Refusal):
    """A number of a text isn't from 0 to 255."""

    def __init__(self):
        Refusal.__init__(self, -1)


class OutOfRange(Refusal):
    """A whole number isn't in the range that's told."""

    def __init__(self):
        Refusal.__init__(self, -3)


class BadList(Refusal):
    """A list isn't as it is told."""

    def __init__(self):
        Refusal.__init__(self, -4)


class NotThere(Refusal):
    """The field has no such state, value or hole."""

    def __init__(self):
        Refusal.__init__(self, -5)


class Fault(Refusal):
    """A text has a word that can't stand where it stands, or words are missing at its end."""

    def __init__(self, place):
        Refusal.__init__(self, -1000 - place)
        self.place = place
