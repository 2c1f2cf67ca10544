"""What the calls are given: how it is parted, and which of it is refused."""

from notchcards.refusals import BadList, NotBytes, NotThere, OutOfRange
from notchcards.texts import read_field

# For each call what it is given, in the order told.
GIVEN = {
    0: (),
    1: ("text",),
    2: ("codes",),
    3: (),
    4: (),
    5: ("state",),
    6: ("state", "value"),
    7: (),
    8: ("state", "value"),
    9: ("state",),
    10: ("state", "row"),
}

# The kinds that have before them how many numbers they are.
LISTS = ("text", "codes", "row")

GREATEST_STATE = 63
GREATEST_VALUE = 7
GREATEST_BYTE = 255
LONGEST_ROW = 60


def parted(calls):
    """The calls one by one: each one's number, and the pairs of a kind and what is given of it."""
    parts = []
    place = 0
    while place < len(calls):
        number = calls[place]
        place += 1
        given = []
        for kind in GIVEN[number]:
            if kind in LISTS:
                end = place + 1 + calls[place]
                given.append((kind, calls[place + 1:end]))
            else:
                end = place + 1
                given.append((kind, calls[place]))
            place = end
        parts.append((number, given))
    return parts


def checked_number(number, greatest, count):
    """The number, if it is in the range from 0 to greatest and one of so many that there are."""
    if number < 0 or number > greatest:
        raise OutOfRange()
    if number >= count:
        raise NotThere()
    return number


def checked_bytes(codes):
    """The numbers, if they are all bytes."""
    for code in codes:
        if code < 0 or code > GREATEST_BYTE:
            raise NotBytes()
    return codes


def checked_row(row, count):
    """The row, if it isn't too long and all its values are of so many that there are."""
    if len(row) > LONGEST_ROW:
        raise BadList()
    for value in row:
        if value < 0 or value >= count:
            raise BadList()
    return row


def checked(field, kind, thing):
    """What the call works with: the thing as it was given, but of a text the field that it tells."""
    if kind == "state":
        return checked_number(thing, GREATEST_STATE, field.state_count())
    if kind == "value":
        return checked_number(thing, GREATEST_VALUE, len(field.names))
    if kind == "row":
        return checked_row(thing, len(field.names))
    codes = checked_bytes(thing)
    return read_field(codes) if kind == "text" else codes
