"""The document's promises 1 and 2, by what the calls answer alone, over many tables."""

import unittest

from tests.helper import Model, after, carry, mixed_models, ranks_of, small_models, value, ways, worst

ENOUGH_ROWS = 400


class Answered:
    """All that value, ways, ranks and worst answer of a field."""

    def __init__(self, model):
        self.text, self.states, self.values = model.text(), model.states(), range(model.count)
        self.ranks = ranks_of(self.text)
        self.asked, self.worst, self.ways = [], [], {}
        for s in self.states:
            answered = after(self.text, value(s), worst(s), *[ways(s, w) for w in self.values])
            self.asked.append(answered[0][2:])
            self.worst.append(answered[1][1:])
            for w in self.values:
                self.ways[s, w] = answered[2 + w][1:]

    def carried(self, requests):
        """What carry answers for each pair of a state and a row."""
        answered = []
        for start in range(0, len(requests), 50):
            answered += after(self.text, *[carry(s, row) for s, row in requests[start:start + 50]])
        return answered

    def rows(self, state, longest):
        """Every row of so many asked changes, up to as many rows as are enough."""
        rows = [([], state)]
        for step in range(longest):
            requests = [(s, [w]) for row, s in rows for w in self.asked[s]][:ENOUGH_ROWS]
            longer = [row + [w] for row, s in rows for w in self.asked[s]][:ENOUGH_ROWS]
            answered = self.carried(requests)
            if not all(answer[0] == 1 for answer in answered):
                return None
            rows = [(row, answer[2]) for row, answer in zip(longer, answered)]
        return [row for row, s in rows]


def many_models():
    """Tables with ranks of all sizes."""
    yield from small_models()
    yield from mixed_models(48, 3)
    for holes in range(1, 6):
        yield Model(holes, 2, [bin(s).count("1") % 2 for s in range(2 ** holes)])
        yield Model(holes, 3, [bin(s).count("1") % 3 for s in range(2 ** holes)], [(0, 1), (1, 2), (1, 0), (2, 0)])
    yield Model(3, 4, [0, 1, 2, 3, 3, 2, 1, 0])


class Promises(unittest.TestCase):
    def test_1_rows_no_longer_than_the_rank_are_carried_out(self):
        for model in many_models():
            seen = Answered(model)
            for s in seen.states:
                longest = 7 if seen.ranks[s] == -1 else seen.ranks[s]
                rows = seen.rows(s, longest)
                self.assertIsNotNone(rows, (seen.text, s))
                for row, answer in zip(rows, seen.carried([(s, row) for row in rows])):
                    self.assertEqual(answer[:2], [1, len(row)], (seen.text, s, row))

    def test_2_the_worst_row_is_carried_as_far_as_the_rank_tells(self):
        for model in many_models():
            seen = Answered(model)
            ended = [s for s in seen.states if seen.ranks[s] != -1]
            for s, answer in zip(ended, seen.carried([(s, seen.worst[s]) for s in ended])):
                rank, row = seen.ranks[s], seen.worst[s]
                self.assertEqual(answer[:2], [0, rank], (seen.text, s))
                self.assertEqual(len(row), rank + 1, (seen.text, s))
                last = answer[-1] if rank > 0 else s
                self.assertEqual(seen.ways[last, row[-1]], [], (seen.text, s))
                self.assertIn(row[-1], seen.asked[last], (seen.text, s))

    def test_2_whichever_ways_are_gone(self):
        for model in many_models():
            seen = Answered(model)
            borne = {}
            for s in reversed(seen.states):
                behind = [] if not seen.worst[s] else seen.ways[s, seen.worst[s][0]]
                borne[s] = max([1 + borne[way] for way in behind], default=0)
                if seen.ranks[s] != -1:
                    self.assertEqual(borne[s], seen.ranks[s], (seen.text, s))

    def test_2_where_there_is_no_end_the_worst_row_is_carried_out(self):
        for model in many_models():
            seen = Answered(model)
            endless = [s for s in seen.states if seen.ranks[s] == -1]
            for s, answer in zip(endless, seen.carried([(s, seen.worst[s]) for s in endless])):
                self.assertEqual(answer[:2], [1, len(seen.worst[s])], (seen.text, s))
                last = answer[-1] if seen.worst[s] else s
                self.assertEqual(seen.asked[last], [], (seen.text, s))
