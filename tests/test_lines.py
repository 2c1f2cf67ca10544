"""The whole program: lists of up to 100 calls of all numbers, beside the document's words gone through one by one."""

import functools
import random
import unittest

from notchcards.fields import answers
from tests.helper import (
    Model, best, best_table, codes, far, field, known, listed, lower, may, mixed_models, run, shown, upper)

LEAST_NUMBER, GREATEST_NUMBER = -9223372036854775808, 9223372036854775807
WITH_A_STATE, WITH_A_VALUE, WITH_A_ROW = (5, 6, 8, 9, 10, 13, 14, 15, 21), (6, 8, 18), (10, 14, 15)
ONE_HOLE = Model(1, 0, [None, None])

best_told = functools.cache(best_table)


def number_of(own):
    return 0 if own is None else own + 1


class Line:
    """What the words tell of a call, on a field and a card that it keeps."""

    def __init__(self):
        self.lay(ONE_HOLE)

    def lay(self, model):
        self.model, self.state, self.changes = model, 0, 0

    def refusal(self, number, given, listing):
        """Of the numbers and the list the first refusal that's due, or 0."""
        m, given = self.model, list(given)
        kinds = [(0, 63, 2 ** m.holes)] if number in WITH_A_STATE else []
        kinds += [(0, 7, m.count)] if number in WITH_A_VALUE else []
        kinds += {13: [(1, 3, 4)], 16: [(1, 3, 4), (2, 8, 9)], 19: [(0, 5, m.holes)]}.get(number, [])
        for told, (least, greatest, many) in zip(given, kinds, strict=True):
            if not least <= told <= greatest:
                return -3
            if told >= many:
                return -5
        if number in WITH_A_ROW and (len(listing) > 60 or not set(listing) <= set(range(m.count))):
            return -4
        if number in (11, 12) and (len(listing) != 2 ** m.holes or any(abs(label) > 1000 for label in listing)):
            return -4
        return 0

    def answer(self, number, given, listing):
        refused = self.refusal(number, given, listing)
        if refused < 0:
            return [refused]
        return getattr(self, f"call_{number}")(*given, *([] if listing is None else [listing]))

    def call_0(self):
        self.lay(ONE_HOLE)
        return [0]

    def call_1(self, model):
        self.lay(model)
        return [model.holes, model.count, sum(own is not None for own in model.table)]

    def call_3(self):
        return [0] + codes(self.model.text().rstrip(" "))

    def call_4(self):
        m = self.model
        return [m.holes, m.count, len(m.lets), sum(own is not None for own in m.table)]

    def call_5(self, s):
        return [number_of(self.model.table[s])] + listed(self.model.asked(s))

    def call_6(self, s, w):
        return listed(self.model.ways(s, w))

    def call_7(self):
        return listed([shown(self.model.rank(s)) for s in self.model.states()])

    def call_8(self, s, w):
        m, way = self.model, self.model.best(s, w)
        return [0] if way is None else [1, way, len(m.sets[way] - m.sets[s]), shown(m.rank(way))]

    def call_9(self, s):
        return listed(self.model.worst(s))

    def call_10(self, s, row):
        return self.model.carry(s, row)

    def call_11(self, labels):
        return self.model.lower(labels)

    def call_12(self, labels):
        return self.model.upper(labels)

    def call_13(self, s, k):
        return self.model.known(s, k)

    def call_14(self, s, row):
        return [self.model.far(s, row)]

    def call_15(self, s, row):
        return listed(self.model.may(s, row))

    def call_16(self, h, v):
        return [-9] if (v + 1) ** (2 ** h - 1) > 20000 else best_told(h, v)

    def call_17(self):
        self.state = self.changes = 0
        return [0]

    def call_18(self, w):
        m, s = self.model, self.state
        if m.table[s] == w:
            return [s, 0]
        if w not in m.asked(s):
            return [-6]
        if m.best(s, w) is None:
            return [-7]
        self.state, self.changes = m.best(s, w), self.changes + 1
        return [self.state, len(m.sets[self.state] - m.sets[s])]

    def call_19(self, h):
        if h in self.model.sets[self.state]:
            return [-6]
        self.state += 2 ** h
        return [self.state]

    def call_20(self):
        m, s = self.model, self.state
        return [s, number_of(m.table[s]), self.changes, shown(m.rank(s))]

    def call_21(self, s):
        return listed(self.model.before(s))


class Drawn:
    """A list of calls drawn at random, with what is wanted of each."""

    def __init__(self, draw, models, wrong):
        self.draw, self.models, self.wrong, self.line = draw, models, wrong, Line()
        self.calls, self.wanted = [], []

    def number(self, many):
        """A number from 0 to one less than many, seldom another one."""
        if self.draw.random() < self.wrong or many == 0:
            return self.draw.choice([-1, many, many + 1, 1, 2, 3, 4, 5, 6, 7, 8, 9, 63, 64, LEAST_NUMBER,
                                     GREATEST_NUMBER])
        return self.draw.randrange(many)

    def listing(self, number):
        m = self.line.model
        if number in (11, 12):
            labels = [1000 if m.rank(s) == float("inf") else m.rank(s) for s in m.states()]
            if number == 12:
                labels = [-1 if label == 1000 else label for label in labels]
            if self.draw.random() < 0.5:
                labels[self.draw.choice(m.states())] += self.draw.choice([-1, 1, 2])
            return labels[1:] if self.draw.random() < self.wrong else labels
        row = [self.number(m.count) for more in range(self.draw.choice([0, 1, 2, 3, 4, 6, 8, 60]))]
        return row + [0] if self.draw.random() < self.wrong else row

    def add(self, number):
        m = self.line.model
        if number == 1:
            model = self.draw.choice(self.models)
            self.calls.append(field(model.text()))
            self.wanted.append(self.line.call_1(model))
            return
        if number == 2:
            self.calls.append([2] + listed(codes("holes 1\nvalues b b")))
            self.wanted.append([1, 17])
            return
        given = [self.number(2 ** m.holes)] if number in WITH_A_STATE else []
        given += [self.number(m.count)] if number in WITH_A_VALUE else []
        given += {13: [1 + self.number(3)], 16: [1 + self.number(3), 2 + self.number(7)],
                  19: [self.number(m.holes)]}.get(number, [])
        given = [max(LEAST_NUMBER, min(told, GREATEST_NUMBER)) for told in given]
        listing = self.listing(number) if number in WITH_A_ROW + (11, 12) else None
        self.calls.append([number] + given + ([] if listing is None else listed(listing)))
        self.wanted.append(self.line.answer(number, given, listing))


def drawn_numbers(draw, many):
    """The numbers of so many calls, all 22 among them if there's room; at most 5 of known and 2 of best."""
    numbers = list(range(22))
    draw.shuffle(numbers)
    numbers = numbers[:many]
    while len(numbers) < many:
        number = draw.choice([1, 3, 4, 5, 6, 7, 8, 9] + [10, 11, 12, 13, 14, 15, 16, 18, 18, 18, 19, 20, 21] * 2)
        if numbers.count(number) < {13: 5, 16: 2, 1: 4}.get(number, many):
            numbers.append(number)
    draw.shuffle(numbers)
    return numbers


def great_models(draw, many):
    """Tables of 6 holes and 8 values."""
    for step in range(many):
        table = [draw.choice([None, *range(8)]) for state in range(64)]
        changes = [(a, b) for a in range(8) for b in range(8) if a != b]
        yield Model(6, 8, table, draw.sample(changes, draw.choice([0, 5, 30])))


class Lines(unittest.TestCase):
    def alike(self, drawn):
        calls = [number for call in drawn.calls for number in call]
        self.assertLessEqual(len(drawn.calls), 100)
        before = list(calls)
        answered = answers(calls)
        self.assertEqual(calls, before, "what is handed in stays as it was")
        self.assertEqual(answers(calls), answered, "a second time begins anew")
        for call, seen, wanted in zip(drawn.calls, run(*drawn.calls), drawn.wanted, strict=True):
            self.assertEqual(seen, wanted, (call, before))

    def test_100_calls_of_all_numbers_on_six_holes_and_eight_values(self):
        draw = random.Random(51)
        for step in range(6):
            drawn = Drawn(draw, list(great_models(draw, 2)), 0.03)
            drawn.add(1)
            for number in drawn_numbers(draw, 99):
                drawn.add(number)
            self.assertEqual({call[0] for call in drawn.calls}, set(range(22)))
            self.alike(drawn)

    def test_short_lists_on_tables_of_all_sizes(self):
        draw, models = random.Random(52), list(mixed_models(96, 53))
        for step in range(150):
            drawn = Drawn(draw, models, draw.choice([0, 0.05, 0.3]))
            if step % 5 > 0:
                drawn.add(1)
            for number in drawn_numbers(draw, draw.randrange(1, 40)):
                drawn.add(number)
            self.alike(drawn)

    def test_100_calls_with_the_longest_lists(self):
        model = next(great_models(random.Random(54), 1))
        row, labels = [0] * 60, [shown(model.rank(s)) for s in model.states()]
        calls = [field(model.text())] + 5 * [known(0, 3)] + 2 * [best(3, 3)]
        wanted = [[6, 8, sum(own is not None for own in model.table)]] + 5 * [model.known(0, 3)] + 2 * [best_told(3, 3)]
        calls += 23 * [far(0, row), may(0, row), lower(labels), upper(labels)]
        wanted += 23 * [[model.far(0, row)], listed(model.may(0, row)), model.lower(labels), model.upper(labels)]
        self.assertEqual(run(*calls), wanted)
