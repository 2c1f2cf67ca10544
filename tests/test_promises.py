"""The document's promises, by what the calls answer alone, over many tables."""

import random
import unittest

from tests.helper import (
    CARD, NAMES, NOT_REFUSED, Model, after, best, carry, change, far, first_tables, known, lower, mixed_models,
    ranks_of, run, small_models, text_of, upper, value, ways, worst)

ENOUGH_ROWS = 400


class Answered:
    """All that value, ways, ranks and worst answer of a field."""

    def __init__(self, model):
        self.text, self.states, self.values = model.text(), model.states(), range(model.count)
        self.ranks = ranks_of(self.text)
        self.own, self.asked, self.worst, self.ways = [], [], [], {}
        for s in self.states:
            answered = after(self.text, value(s), worst(s), *[ways(s, w) for w in self.values])
            self.own.append(answered[0][0] - 1)
            self.asked.append(answered[0][2:])
            self.worst.append(answered[1][1:])
            for w in self.values:
                self.ways[s, w] = answered[2 + w][1:]

    def carried(self, requests):
        """What carry answers for each pair of a state and a row."""
        answered = []
        for start in range(0, len(requests), 50):
            answered += after(self.text, *[carry(s, row) for s, row in requests[start:start + 50]])
        return answered

    def rows(self, state, longest):
        """Every row of so many asked changes, up to as many rows as are enough."""
        rows = [([], state)]
        for step in range(longest):
            requests = [(s, [w]) for row, s in rows for w in self.asked[s]][:ENOUGH_ROWS]
            longer = [row + [w] for row, s in rows for w in self.asked[s]][:ENOUGH_ROWS]
            answered = self.carried(requests)
            if not all(answer[0] == 1 for answer in answered):
                return None
            rows = [(row, answer[2]) for row, answer in zip(longer, answered)]
        return [row for row, s in rows]


def many_models():
    """Tables with ranks of all sizes."""
    yield from small_models()
    yield from mixed_models(48, 3)
    for holes in range(1, 6):
        yield Model(holes, 2, [bin(s).count("1") % 2 for s in range(2 ** holes)])
        yield Model(holes, 3, [bin(s).count("1") % 3 for s in range(2 ** holes)], [(0, 1), (1, 2), (1, 0), (2, 0)])
    yield Model(3, 4, [0, 1, 2, 3, 3, 2, 1, 0])


class Promises(unittest.TestCase):
    def test_1_rows_no_longer_than_the_rank_are_carried_out(self):
        for model in many_models():
            seen = Answered(model)
            for s in seen.states:
                longest = 7 if seen.ranks[s] == -1 else seen.ranks[s]
                rows = seen.rows(s, longest)
                self.assertIsNotNone(rows, (seen.text, s))
                for row, answer in zip(rows, seen.carried([(s, row) for row in rows])):
                    self.assertEqual(answer[:2], [1, len(row)], (seen.text, s, row))

    def test_2_the_worst_row_is_carried_as_far_as_the_rank_tells(self):
        for model in many_models():
            seen = Answered(model)
            ended = [s for s in seen.states if seen.ranks[s] != -1]
            for s, answer in zip(ended, seen.carried([(s, seen.worst[s]) for s in ended])):
                rank, row = seen.ranks[s], seen.worst[s]
                self.assertEqual(answer[:2], [0, rank], (seen.text, s))
                self.assertEqual(len(row), rank + 1, (seen.text, s))
                last = answer[-1] if rank > 0 else s
                self.assertEqual(seen.ways[last, row[-1]], [], (seen.text, s))
                self.assertIn(row[-1], seen.asked[last], (seen.text, s))

    def test_2_whichever_ways_are_gone(self):
        for model in many_models():
            seen = Answered(model)
            borne = {}
            for s in reversed(seen.states):
                behind = [] if not seen.worst[s] else seen.ways[s, seen.worst[s][0]]
                borne[s] = max([1 + borne[way] for way in behind], default=0)
                if seen.ranks[s] != -1:
                    self.assertEqual(borne[s], seen.ranks[s], (seen.text, s))

    def test_2_where_there_is_no_end_the_worst_row_is_carried_out(self):
        for model in many_models():
            seen = Answered(model)
            endless = [s for s in seen.states if seen.ranks[s] == -1]
            for s, answer in zip(endless, seen.carried([(s, seen.worst[s]) for s in endless])):
                self.assertEqual(answer[:2], [1, len(seen.worst[s])], (seen.text, s))
                last = answer[-1] if seen.worst[s] else s
                self.assertEqual(seen.asked[last], [], (seen.text, s))

    def test_1_and_2_on_the_card(self):
        draw = random.Random(41)
        for model in many_models():
            seen = Answered(model)
            rank = 7 if seen.ranks[0] == -1 else seen.ranks[0]
            # Asked at will no longer than the rank, and then the worst row.
            row, s = [], 0
            while len(row) < rank and seen.asked[s]:
                row.append(draw.choice(seen.asked[s]))
                s = seen.carried([(0, row)])[0][-1]
            answered = after(seen.text, *[change(w) for w in row], CARD)
            self.assertTrue(all(answer[0] > 0 for answer in answered[:-1]), (seen.text, row))
            self.assertEqual(answered[-1][:3:2], [s, len(row)], (seen.text, row))
            if seen.ranks[0] != -1:
                answered = after(seen.text, *[change(w) for w in seen.worst[0]], CARD)
                self.assertEqual(answered[-2], [-7], seen.text)
                self.assertEqual(answered[-1][2], seen.ranks[0], seen.text)

    def test_3_labels_accepted_from_below_are_borne_and_those_from_above_never_passed(self):
        draw, accepted = random.Random(42), [0, 0]
        for model in many_models():
            text, ranks = model.text(), ranks_of(model.text())
            for step in range(20):
                near = [(model.holes if rank == -1 else rank) for rank in ranks]
                labels = [label + draw.choice([-2, -1, 0, 0, 0, 0, 0, 1]) for label in near]
                below, above = after(text, lower(labels), upper(labels))
                if below[0] == 1:
                    accepted[0] += 1
                    self.assertTrue(all(rank == -1 or label <= rank for label, rank in zip(labels, ranks)), text)
                if above[0] == 1:
                    accepted[1] += 1
                    self.assertTrue(all(label < 0 or -1 < rank <= label for label, rank in zip(labels, ranks)), text)
        self.assertGreater(min(accepted), 300, "enough labels are accepted")

    def test_3_the_ranks_themselves_are_accepted(self):
        for model in many_models():
            ranks = ranks_of(model.text())
            # From below no end is more than all labels; from above nothing is told there.
            greatest = [1000 if rank == -1 else rank for rank in ranks]
            self.assertEqual(after(model.text(), lower(greatest), upper(ranks)), [[1, greatest[0]], [1, ranks[0]]],
                             model.text())

    def test_4_nobody_carries_a_row_farther(self):
        draw = random.Random(43)
        for model in many_models():
            seen = Answered(model)
            for step in range(6):
                s = draw.choice(seen.states)
                row = [draw.choice(seen.values) for more in range(draw.randrange(1, 9))]
                told, carried = after(seen.text, far(s, row), carry(s, row))
                self.assertEqual(told, [self.carried_at_most(seen, s, row)], (seen.text, s, row))
                self.assertLessEqual(carried[1], told[0], (seen.text, s, row))

    def carried_at_most(self, seen, s, row):
        """How many of the row's changes are carried if each way is tried."""
        if not row:
            return 0
        behind = [s] if seen.own[s] == row[0] else []
        if row[0] in seen.asked[s]:
            behind = behind + seen.ways[s, row[0]]
        return max([1 + self.carried_at_most(seen, way, row[1:]) for way in behind], default=0)

    def test_4_the_row_that_is_told_is_not_carried(self):
        for model in many_models():
            text = model.text()
            for s in (0, 1):
                answer = after(text, known(s, 3))[0]
                if answer[0] == 0:
                    row = answer[2:]
                    self.assertEqual(after(text, far(s, row)), [[len(row) - 1]], (text, s, row))

    def test_5_no_table_bears_more_than_the_best_one(self):
        for holes, count in NOT_REFUSED:
            greatest = run(best(holes, count))[0][0]
            ranks = {ranks_of(text_of(holes, NAMES[:count], table))[0] for table in first_tables(holes, count)}
            self.assertEqual(max(ranks), greatest, (holes, count))
