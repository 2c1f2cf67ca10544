"""Labels: bounds of the ranks that are handed in, and the states where they aren't accepted."""


def is_borne(field, labels, state):
    """Whether the state's label is accepted from below."""
    if labels[state] <= 0:
        return True
    for value in field.asked(state):
        if not any([labels[way] >= labels[state] - 1 for way in field.ways(state, value)]):
            return False
    return True


def is_never_passed(field, labels, state):
    """Whether the state's label is accepted from above."""
    if labels[state] < 0:
        return True
    for value in field.asked(state):
        # Without a way the value bounds the state by itself.
        if all([0 <= labels[way] < labels[state] for way in field.ways(state, value)]):
            return True
    return False


def states_not_borne(field, labels):
    """The states where the labels aren't accepted from below, rising."""
    return [state for state in range(field.state_count()) if not is_borne(field, labels, state)]


def states_passed(field, labels):
    """The states where the labels aren't accepted from above, rising."""
    return [state for state in range(field.state_count()) if not is_never_passed(field, labels, state)]
