"""What the calls are given: how it is parted, and which of it is refused."""

from notchcards.refusals import BadList, NotBytes, NotThere, OutOfRange
from notchcards.texts import read_field

# For each call what it is given, in the order told.
GIVEN = {
    0: (),
    1: ("text",),
    2: ("codes",),
    3: (),
    4: (),
    5: ("state",),
    6: ("state", "value"),
    7: (),
    8: ("state", "value"),
    9: ("state",),
    10: ("state", "row"),
    11: ("labels",),
    12: ("labels",),
    13: ("state", "longest"),
    14: ("state", "row"),
    15: ("state", "row"),
    16: ("hole count", "value count"),
    17: (),
    18: ("value",),
    19: ("hole",),
    20: (),
    21: ("state",),
}

# The kinds that have before them how many numbers they are.
LISTS = ("text", "codes", "row", "labels")

# The least and the greatest number of the kinds that hang on no field.
RANGES = {
    "longest": (1, 3),
    "hole count": (1, 3),
    "value count": (2, 8),
}

GREATEST_STATE = 63
GREATEST_VALUE = 7
GREATEST_HOLE = 5
GREATEST_BYTE = 255
LONGEST_ROW = 60
GREATEST_LABEL = 1000


def parted(calls):
    """The calls one by one: each one's number, and the pairs of a kind and what is given of it."""
    parts = []
    place = 0
    while place < len(calls):
        number = calls[place]
        place += 1
        given = []
        for kind in GIVEN[number]:
            if kind in LISTS:
                end = place + 1 + calls[place]
                given.append((kind, calls[place + 1:end]))
            else:
                end = place + 1
                given.append((kind, calls[place]))
            place = end
        parts.append((number, given))
    return parts


def checked_range(number, least, greatest):
    """The number, if it is in that range."""
    if number < least or number > greatest:
        raise OutOfRange()
    return number


def checked_number(number, greatest, count):
    """The number, if it is in the range from 0 to greatest and one of so many that there are."""
    if checked_range(number, 0, greatest) >= count:
        raise NotThere()
    return number


def checked_bytes(codes):
    """The numbers, if they are all bytes."""
    for code in codes:
        if code < 0 or code > GREATEST_BYTE:
            raise NotBytes()
    return codes


def checked_row(row, count):
    """The row, if it isn't too long and all its values are of so many that there are."""
    if len(row) > LONGEST_ROW:
        raise BadList()
    for value in row:
        if value < 0 or value >= count:
            raise BadList()
    return row


def checked_labels(labels, count):
    """The labels, if they are in their range and as many as there are states."""
    if len(labels) != count:
        raise BadList()
    for label in labels:
        if label < -GREATEST_LABEL or label > GREATEST_LABEL:
            raise BadList()
    return labels


def checked(field, kind, thing):
    """What the call works with: the thing as it was given, but of a text the field that it tells."""
    if kind in RANGES:
        return checked_range(thing, RANGES[kind][0], RANGES[kind][1])
    if kind == "state":
        return checked_number(thing, GREATEST_STATE, field.state_count())
    if kind == "value":
        return checked_number(thing, GREATEST_VALUE, len(field.names))
    if kind == "hole":
        return checked_number(thing, GREATEST_HOLE, field.holes)
    if kind == "row":
        return checked_row(thing, len(field.names))
    if kind == "labels":
        return checked_labels(thing, field.state_count())
    codes = checked_bytes(thing)
    return read_field(codes) if kind == "text" else codes
