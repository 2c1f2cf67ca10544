"""A field: its holes, its values, the changes let, its table, and the ranks that follow from these."""

NO_VALUE = -1
NO_WAY = -1

# Each change cuts a notch, so a rank that has an end is at most the number of holes.
NO_END = 1000


class Field:
    """A field with its table, and for each state its rank and its best ways."""

    def __init__(self, holes, names, lets, table):
        self.holes = holes
        self.names = list(names)
        self.lets = list(lets)
        self.table = list(table)
        self.above = [more_notched(state, len(table)) for state in range(len(table))]
        self.ranks = [NO_END] * len(table)
        self.best = [[] for value in table]
        # A way's number is always greater, so its rank is there before it is needed.
        for state in range(len(table) - 1, -1, -1):
            self.settle(state)

    def settle(self, state):
        """Find the state's best ways and its rank; those of its ways are to be found already."""
        self.best[state] = self.best_ways(state)
        self.ranks[state] = self.least_left(state)

    def state_count(self):
        """How many states there are."""
        return len(self.table)

    def valued_count(self):
        """How many states have a value."""
        return len([value for value in self.table if value != NO_VALUE])

    def asked(self, state):
        """The values that may be asked in the state, rising."""
        return self.asked_from(self.table[state])

    def asked_from(self, own):
        """The values that may be asked where that value stands, or NO_VALUE, rising."""
        if own == NO_VALUE or len(self.lets) == 0:
            return [value for value in range(len(self.names)) if value != own]
        return [value for value in range(len(self.names)) if (own, value) in self.lets]

    def ways(self, state, value):
        """The ways from the state to the value, rising."""
        return [other for other in self.above[state] if self.table[other] == value]

    def before(self, state):
        """The states from which the best way to the state's value goes to it, rising."""
        own = self.table[state]
        if own == NO_VALUE:
            return []
        # A way has more notches, so its number is greater.
        return [other for other in range(state) if self.best[other][own] == state]

    def best_ways(self, state):
        """For each value the best way to it from the state, or NO_WAY."""
        best = [NO_WAY] * len(self.names)
        for other in self.above[state]:
            value = self.table[other]
            if value == NO_VALUE:
                continue
            # Only a greater rank takes the place: of several the least state stays.
            if best[value] == NO_WAY or self.ranks[other] > self.ranks[best[value]]:
                best[value] = other
        return best

    def left(self, state, value):
        """How many changes are borne from the state on if the value is asked there."""
        way = self.best[state][value]
        if way == NO_WAY:
            return 0
        if self.ranks[way] == NO_END:
            return NO_END
        return self.ranks[way] + 1

    def least_left(self, state):
        """The state's rank."""
        least = NO_END
        for value in self.asked(state):
            least = min(least, self.left(state, value))
        return least

    def worst_value(self, state):
        """The first value of the state's worst row, or NO_VALUE where nothing may be asked."""
        for value in self.asked(state):
            if self.left(state, value) == self.ranks[state]:
                return value
        return NO_VALUE

    def worst_row(self, state):
        """The values of the worst row from the state."""
        row = []
        value = self.worst_value(state)
        while value != NO_VALUE:
            row.append(value)
            state = self.best[state][value]
            if state == NO_WAY:
                break
            value = self.worst_value(state)
        return row

    def behind(self, state, value):
        """The state behind the change to the value, or NO_WAY if it can't be."""
        if self.table[state] == value:
            return state
        if value not in self.asked(state):
            return NO_WAY
        return self.best[state][value]

    def carried(self, state, row):
        """The states behind each change of the row, up to the first that can't be."""
        states = []
        for value in row:
            state = self.behind(state, value)
            if state == NO_WAY:
                break
            states.append(state)
        return states


def first_field():
    """The field of a line's beginning."""
    return Field(1, [], [], [NO_VALUE, NO_VALUE])


def more_notched(state, count):
    """Of so many states the other ones that have all of the state's notches, rising."""
    return [other for other in range(state + 1, count) if (other & state) == state]


def notch_count(state):
    """How many holes are notched in the state."""
    count = 0
    while state > 0:
        count += state & 1
        state = state >> 1
    return count
