"""What the tests share: calls made and parted again, and the document's words gone through once more.

The class Model follows the document's words over sets of holes, and draws on none of the package.
"""

import itertools
import random

from notchcards.fields import answers

NAMES = ["a", "b", "c", "d", "e", "f", "g", "h"]

# Four values by three holes: the document's own boast.
CLEVER = ("holes 3\nvalues north east south west\nat 0 is north\nat 1 is east\nat 2 is south\n"
          "at 0 1 is west\nat 0 2 is east\nat 1 2 is north\nat 0 1 2 is south")

# What many examples are worked out of by hand: two holes, three values.
PLAIN = "holes 2\nvalues a b c\nat is a\nat 0 is b\nat 1 is c\nat 0 1 is a"
LET = "holes 2\nvalues a b c\nlet a b\nlet b c\nat is a\nat 0 is b\nat 1 is c\nat 0 1 is a"

# The holes and values of which best tells a table.
NOT_REFUSED = [(holes, count) for holes in (1, 2) for count in range(2, 9)] + [(3, 2), (3, 3)]

CLEAR, TEXT, TOLD, RANKS, NEW, CARD = [0], [3], [4], [7], [17], [20]


def codes(text):
    return [ord(sign) for sign in text]


def listed(numbers):
    return [len(numbers)] + list(numbers)


def field(text):
    return [1] + listed(codes(text))


def look(text):
    return [2] + listed(codes(text))


def value(state):
    return [5, state]


def ways(state, asked):
    return [6, state, asked]


def go(state, asked):
    return [8, state, asked]


def worst(state):
    return [9, state]


def carry(state, row):
    return [10, state] + listed(row)


def lower(labels):
    return [11] + listed(labels)


def upper(labels):
    return [12] + listed(labels)


def known(state, longest):
    return [13, state, longest]


def far(state, row):
    return [14, state] + listed(row)


def may(state, row):
    return [15, state] + listed(row)


def best(holes, count):
    return [16, holes, count]


def change(asked):
    return [18, asked]


def notch(hole):
    return [19, hole]


def before(state):
    return [21, state]


def run(*calls):
    """Each call's answer, a list for each."""
    flat = answers([number for call in calls for number in call])
    parts, place = [], 0
    while place < len(flat):
        end = place + 1 + flat[place]
        assert flat[place] > 0 and end <= len(flat), "a count that isn't so"
        parts.append(flat[place + 1:end])
        place = end
    assert len(parts) == len(calls), "as many answers as calls"
    return parts


def after(text, *calls):
    """The calls' answers on the field of that text."""
    parts = run(field(text), *calls)
    assert parts[0][0] > 0, f"the text is refused: {parts[0]}"
    return parts[1:]


def one(text, call):
    return after(text, call)[0]


def text_of(holes, names, table, lets=()):
    """The one text of a table: for each state its value, or None; lets are pairs of values."""
    lines = [f"holes {holes}", "values " + " ".join(names)]
    lines += [f"let {names[first]} {names[second]}" for first, second in lets]
    for state, own in enumerate(table):
        if own is not None:
            notched = [str(hole) for hole in range(holes) if state >> hole & 1]
            lines.append(" ".join(["at", *notched, "is", names[own]]))
    return "\n".join(lines)


class Model:
    """The document's words, followed one by one."""

    def __init__(self, holes, count, table, lets=()):
        self.holes, self.count, self.table, self.lets = holes, count, list(table), list(lets)
        self.sets = [frozenset(h for h in range(holes) if s >> h & 1) for s in range(2 ** holes)]
        self.rank_known, self.ways_known = {}, {}

    def text(self):
        return text_of(self.holes, NAMES[:self.count], self.table, self.lets)

    def states(self):
        return range(2 ** self.holes)

    def asked(self, state):
        own = self.table[state]
        others = [w for w in range(self.count) if w != own]
        if own is not None and self.lets:
            return [w for w in others if (own, w) in self.lets]
        return others

    def ways(self, state, w):
        if (state, w) not in self.ways_known:
            self.ways_known[state, w] = [
                t for t in self.states() if self.table[t] == w and self.sets[state] < self.sets[t]]
        return self.ways_known[state, w]

    def left(self, state, w):
        return max([1 + self.rank(t) for t in self.ways(state, w)], default=0)

    def rank(self, state):
        if state not in self.rank_known:
            self.rank_known[state] = min([self.left(state, w) for w in self.asked(state)],
                                         default=float("inf"))
        return self.rank_known[state]

    def best(self, state, w):
        return min(self.ways(state, w), key=lambda t: (-self.rank(t), t), default=None)

    def worst(self, state):
        for w in self.asked(state):
            if self.left(state, w) == self.rank(state):
                way = self.best(state, w)
                return [w] if way is None else [w] + self.worst(way)
        return []

    def carry(self, state, row):
        states = []
        for w in row:
            if w != self.table[state]:
                if w not in self.asked(state) or not self.ways(state, w):
                    return [0, len(states)] + states
                state = self.best(state, w)
            states.append(state)
        return [1, len(states)] + states

    def asked_behind(self, w):
        """What may be asked where the value w stands; it may stand in no state."""
        if self.lets:
            return [second for first, second in self.lets if first == w]
        return [other for other in range(self.count) if other != w]

    def may(self, state, row):
        states = {state}
        for w in row:
            itself = {s for s in states if self.table[s] == w}
            states = itself.union(*[self.ways(s, w) for s in states if w in self.asked(s)])
        return sorted(states)

    def far(self, state, row):
        return max(many for many in range(len(row) + 1) if self.may(state, row[:many]))

    def known(self, state, longest):
        """Every row, the lesser ones first, until one is lost by its last change."""
        rows = [row for many in range(1, longest + 1) for row in itertools.product(range(self.count), repeat=many)]
        for row in sorted(rows):
            may_be_asked = row[0] in self.asked(state) and all(
                second in self.asked_behind(first) for first, second in zip(row, row[1:]))
            if may_be_asked and self.may(state, row[:-1]) and not self.may(state, row):
                return [0, len(row), *row]
        return [1]

    def lower(self, labels):
        wrong = [s for s in self.states() if labels[s] > 0 and any(
            max([labels[way] for way in self.ways(s, w)], default=-9999) < labels[s] - 1 for w in self.asked(s))]
        return [0, wrong[0]] if wrong else [1, labels[0]]

    def upper(self, labels):
        wrong = [s for s in self.states() if labels[s] >= 0 and not any(
            all(labels[way] in range(labels[s]) for way in self.ways(s, w)) for w in self.asked(s))]
        return [0, wrong[0]] if wrong else [1, labels[0]]

    def before(self, state):
        own = self.table[state]
        return [] if own is None else [s for s in self.states() if self.best(s, own) == state]


def shown(rank):
    return -1 if rank == float("inf") else rank


def small_models():
    """All tables of one hole or two with up to two values, with all that may be let."""
    for holes, count in itertools.product((1, 2), (1, 2)):
        changes = list(itertools.permutations(range(count), 2))
        for table in itertools.product([None, *range(count)], repeat=2 ** holes):
            for told in range(len(changes) + 1):
                for lets in itertools.combinations(changes, told):
                    yield Model(holes, count, table, lets)


def first_tables(holes, count):
    """All tables without a value in state 0, the least sum first: the last state's value weighs the most."""
    for told in itertools.product([None, *range(count)], repeat=2 ** holes - 1):
        yield [None, *reversed(told)]


def bears(table, count, state, changes):
    """Whether the state bears so many changes, whatever is asked; all changes are let, None is no value."""
    if changes == 0:
        return True
    ways = [other for other in range(state + 1, len(table)) if other & state == state]
    return all(any(table[way] == w and bears(table, count, way, changes - 1) for way in ways)
               for w in range(count) if w != table[state])


def best_table(holes, count):
    """What best answers: the greatest rank, and state by state the value's number plus 1, or 0, of the first table."""
    rank, first = 0, [None] * 2 ** holes
    for table in first_tables(holes, count):
        while bears(table, count, 0, rank + 1):
            rank, first = rank + 1, table
    return [rank] + [0 if own is None else own + 1 for own in first]


def mixed_models(many, seed):
    """Tables of all sizes, the same ones every time."""
    draw = random.Random(seed)
    for number in range(many):
        holes, count = 1 + number % 6, 1 + number // 6 % 8
        own = [None] * draw.randrange(3) + list(range(count))
        table = [draw.choice(own) for state in range(2 ** holes)]
        changes = list(itertools.permutations(range(count), 2))
        draw.shuffle(changes)
        lets = changes[:draw.choice([0, 0, 1, 4, 12, 30])]
        yield Model(holes, count, table, lets)


def ranks_of(text):
    """The ranks of the text's field, without how many they are."""
    return one(text, RANKS)[1:]
