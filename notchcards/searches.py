"""The search for the best table of so many holes and values."""

from notchcards.refusals import TooManyTables
from notchcards.tables import NO_VALUE, Field

MOST_TABLES = 20000


class Trial(Field):
    """A field without a value in state 0, whose table goes through all that there are, the first ones first."""

    def __init__(self, holes, count):
        Field.__init__(self, holes, [str(value) for value in range(count)], [], [NO_VALUE] * (1 << holes))

    def advance(self):
        """Take the next table; tell whether there is one."""
        for state in range(1, self.state_count()):
            if self.table[state] < len(self.names) - 1:
                # The value 0 comes behind NO_VALUE, -1.
                self.table[state] += 1
                # The states passed by have no value any more, so nobody's rank hangs on theirs.
                self.settle(state)
                self.settle(0)
                return True
            self.table[state] = NO_VALUE
        return False


def table_count(holes, count):
    """How many tables of so many holes and values tell no value in state 0."""
    tables = 1
    for state in range(1, 1 << holes):
        tables = tables * (count + 1)
    return tables


def best_field(holes, count):
    """Of all fields that tell no value in state 0 the first one with the greatest rank there."""
    if table_count(holes, count) > MOST_TABLES:
        raise TooManyTables()
    trial = Trial(holes, count)
    rank = trial.ranks[0]
    table = list(trial.table)
    while trial.advance():
        if trial.ranks[0] > rank:
            rank = trial.ranks[0]
            table = list(trial.table)
    return Field(holes, trial.names, [], table)
