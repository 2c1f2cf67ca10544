"""What the tests share: calls made and parted again, and the document's words gone through once more.

The class Model follows the document's words over sets of holes, and draws on none of the package.
"""

import itertools
import random

from notchcards.fields import answers

NAMES = ["a", "b", "c", "d", "e", "f", "g", "h"]

# Four values by three holes: the document's own boast.
CLEVER = ("holes 3\nvalues north east south west\nat 0 is north\nat 1 is east\nat 2 is south\n"
          "at 0 1 is west\nat 0 2 is east\nat 1 2 is north\nat 0 1 2 is south")

CLEAR, TEXT, TOLD, RANKS = [0], [3], [4], [7]


def codes(text):
    return [ord(sign) for sign in text]


def listed(numbers):
    return [len(numbers)] + list(numbers)


def field(text):
    return [1] + listed(codes(text))


def look(text):
    return [2] + listed(codes(text))


def value(state):
    return [5, state]


def ways(state, asked):
    return [6, state, asked]


def go(state, asked):
    return [8, state, asked]


def worst(state):
    return [9, state]


def carry(state, row):
    return [10, state] + listed(row)


def run(*calls):
    """Each call's answer, a list for each."""
    flat = answers([number for call in calls for number in call])
    parts, place = [], 0
    while place < len(flat):
        end = place + 1 + flat[place]
        assert flat[place] > 0 and end <= len(flat), "a count that isn't so"
        parts.append(flat[place + 1:end])
        place = end
    assert len(parts) == len(calls), "as many answers as calls"
    return parts


def after(text, *calls):
    """The calls' answers on the field of that text."""
    parts = run(field(text), *calls)
    assert parts[0][0] > 0, f"the text is refused: {parts[0]}"
    return parts[1:]


def one(text, call):
    return after(text, call)[0]


def text_of(holes, names, table, lets=()):
    """The one text of a table: for each state its value, or None; lets are pairs of values."""
    lines = [f"holes {holes}", "values " + " ".join(names)]
    lines += [f"let {names[first]} {names[second]}" for first, second in lets]
    for state, own in enumerate(table):
        if own is not None:
            notched = [str(hole) for hole in range(holes) if state >> hole & 1]
            lines.append(" ".join(["at", *notched, "is", names[own]]))
    return "\n".join(lines)


class Model:
    """The document's words, followed one by one."""

    def __init__(self, holes, count, table, lets=()):
        self.holes, self.count, self.table, self.lets = holes, count, list(table), list(lets)
        self.sets = [frozenset(h for h in range(holes) if s >> h & 1) for s in range(2 ** holes)]
        self.rank_known = {}

    def text(self):
        return text_of(self.holes, NAMES[:self.count], self.table, self.lets)

    def states(self):
        return range(2 ** self.holes)

    def asked(self, state):
        own = self.table[state]
        others = [w for w in range(self.count) if w != own]
        if own is not None and self.lets:
            return [w for w in others if (own, w) in self.lets]
        return others

    def ways(self, state, w):
        return [t for t in self.states() if self.table[t] == w and self.sets[state] < self.sets[t]]

    def left(self, state, w):
        return max([1 + self.rank(t) for t in self.ways(state, w)], default=0)

    def rank(self, state):
        if state not in self.rank_known:
            self.rank_known[state] = min([self.left(state, w) for w in self.asked(state)],
                                         default=float("inf"))
        return self.rank_known[state]

    def best(self, state, w):
        return min(self.ways(state, w), key=lambda t: (-self.rank(t), t), default=None)

    def worst(self, state):
        for w in self.asked(state):
            if self.left(state, w) == self.rank(state):
                way = self.best(state, w)
                return [w] if way is None else [w] + self.worst(way)
        return []

    def carry(self, state, row):
        states = []
        for w in row:
            if w != self.table[state]:
                if w not in self.asked(state) or not self.ways(state, w):
                    return [0, len(states)] + states
                state = self.best(state, w)
            states.append(state)
        return [1, len(states)] + states


def shown(rank):
    return -1 if rank == float("inf") else rank


def small_models():
    """All tables of one hole or two with up to two values, with all that may be let."""
    for holes, count in itertools.product((1, 2), (1, 2)):
        changes = list(itertools.permutations(range(count), 2))
        for table in itertools.product([None, *range(count)], repeat=2 ** holes):
            for told in range(len(changes) + 1):
                for lets in itertools.combinations(changes, told):
                    yield Model(holes, count, table, lets)


def mixed_models(many, seed):
    """Tables of all sizes, the same ones every time."""
    draw = random.Random(seed)
    for number in range(many):
        holes, count = 1 + number % 6, 1 + number // 6 % 8
        own = [None] * draw.randrange(3) + list(range(count))
        table = [draw.choice(own) for state in range(2 ** holes)]
        changes = list(itertools.permutations(range(count), 2))
        draw.shuffle(changes)
        lets = changes[:draw.choice([0, 0, 1, 4, 12, 30])]
        yield Model(holes, count, table, lets)


def ranks_of(text):
    """The ranks of the text's field, without how many they are."""
    return one(text, RANKS)[1:]
