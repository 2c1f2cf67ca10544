"""Rows of changes that are known beforehand: whichever ways are gone, where they may leave a field."""


def behind_any(field, states, value):
    """The states, rising, in which the change to the value may leave the field from one of those states."""
    behind = []
    for state in states:
        if field.table[state] == value:
            behind.append(state)
        elif value in field.asked(state):
            behind.extend(field.ways(state, value))
    return sorted(set(behind))


def may_be(field, state, row):
    """For each of the row's beginnings, from the empty one to the whole row, the states that may be behind it."""
    behind = [[state]]
    for value in row:
        behind.append(behind_any(field, behind[-1], value))
    return behind


def farthest(field, state, row):
    """How many of the row's first changes may leave the field in some state."""
    # The empty beginning carries no change; and where no state is left, none is left behind it.
    return len([states for states in may_be(field, state, row) if len(states) > 0]) - 1


def lost_row(field, states, own, longest):
    """The first row, of at most so many changes, that may leave the field in no state; empty if there's none.

    The field may be in those states, and own is the value that stands there.
    """
    if longest == 0:
        return []
    for value in field.asked_from(own):
        behind = behind_any(field, states, value)
        if len(behind) == 0:
            return [value]
        rest = lost_row(field, behind, value, longest - 1)
        if len(rest) > 0:
            return [value] + rest
    return []
