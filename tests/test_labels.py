"""lower and upper: labels from below and from above, and where they aren't accepted."""

import random
import unittest

from tests.helper import (
    CARD, LET, PLAIN, RANKS, TEXT, after, change, lower, mixed_models, one, ranks_of, run, small_models, upper)

# From state 0 two ways lead to b, the states 1 and 2; from these one way leads to a.
TWO_WAYS = "holes 2\nvalues a b\nat is a\nat 0 is b\nat 1 is b\nat 0 1 is a"


class Lower(unittest.TestCase):
    def judged(self, text, *pairs):
        for labels, wanted in pairs:
            with self.subTest(labels=labels):
                self.assertEqual(one(text, lower(labels)), wanted)

    def test_state_0s_label_where_they_are_accepted(self):
        self.judged(PLAIN, ([1, 0, 0, 0], [1, 1]), ([0, 0, 0, 0], [1, 0]))

    def test_the_first_state_where_it_is_not_so(self):
        self.judged(PLAIN, ([2, 0, 0, 0], [0, 0]), ([2, 1, 1, 0], [0, 1]), ([1, 0, 1, 0], [0, 2]),
                    ([1, 0, 0, 1], [0, 3]), ([0, 1, 1, 1], [0, 1]), ([5, 5, 5, 5], [0, 1]))

    def test_labels_of_0_and_below_0_tell_nothing_there(self):
        self.judged(PLAIN, ([-1, -2, -3, -4], [1, -1]), ([-1000, 0, -1, 0], [1, -1000]), ([0, -1, -1, -1], [1, 0]))

    def test_a_way_with_the_states_less_1_and_with_the_one_below_that(self):
        self.judged(TWO_WAYS, ([2, 1, 1, 0], [1, 2]), ([2, 0, 0, 0], [0, 0]), ([1, 0, 0, 0], [1, 1]),
                    ([1, -1, -1, 0], [0, 0]), ([0, 1, 0, 0], [1, 0]), ([0, 1, 0, -1], [0, 1]))

    def test_a_way_may_have_more(self):
        self.judged("holes 2\nvalues a b\nlet a b\nat is a\nat 0 is b", ([2, 1000, 0, 0], [1, 2]),
                    ([1000, 999, 0, 0], [1, 1000]), ([1000, 998, 0, 0], [0, 0]))

    def test_one_of_several_ways_is_enough(self):
        self.judged(TWO_WAYS, ([2, 1, 0, 0], [1, 2]), ([2, 0, 1, 0], [1, 2]), ([2, -5, 1, 0], [1, 2]),
                    ([1, -5, 0, 0], [1, 1]), ([1, -5, -1, 0], [0, 0]))

    def test_each_value_that_may_be_asked(self):
        self.judged(PLAIN, ([1, 0, -1, 0], [0, 0]), ([1, -1, 0, 0], [0, 0]))

    def test_a_value_without_a_way(self):
        self.judged(PLAIN, ([0, 0, 0, 1], [0, 3]), ([0, 0, 0, 1000], [0, 3]), ([0, 1, 0, 5], [0, 1]))
        self.judged("holes 1\nvalues a b\nat 0 is a", ([1, 0], [0, 0]), ([0, 1], [0, 1]), ([0, 0], [1, 0]))

    def test_only_what_is_let(self):
        # From a only b may be asked, so that c's label isn't looked at.
        self.judged(LET, ([1, 0, -5, 0], [1, 1]), ([1, -1, 0, 0], [0, 0]), ([1, 1, 0, 0], [0, 1]))

    def test_a_state_where_nothing_may_be_asked(self):
        self.judged(LET, ([1, 0, 1000, 0], [1, 1]), ([0, 0, 1, 0], [1, 0]))
        self.judged("holes 1\nvalues a\nat is a\nat 0 is a", ([1000, 7], [1, 1000]), ([-3, 1000], [1, -3]))
        self.assertEqual(run(lower([7, 9]), lower([0, -9])), [[1, 7], [1, 0]])

    def test_a_state_without_a_value(self):
        text = "holes 2\nvalues a b\nlet a b\nat 0 is a\nat 1 is b"
        self.judged(text, ([1, 0, 1000, 0], [1, 1]), ([2, 1, 1, 0], [0, 1]), ([2, 0, 1, 0], [0, 0]),
                    ([0, 0, 0, 1], [0, 3]))


class Upper(unittest.TestCase):
    def judged(self, text, *pairs):
        for labels, wanted in pairs:
            with self.subTest(labels=labels):
                self.assertEqual(one(text, upper(labels)), wanted)

    def test_state_0s_label_where_they_are_accepted(self):
        self.judged(PLAIN, ([1, 0, 0, 0], [1, 1]), ([1000, 0, 5, 0], [1, 1000]))

    def test_the_first_state_where_it_is_not_so(self):
        self.judged(PLAIN, ([0, 0, 0, 0], [0, 0]))
        self.judged(TWO_WAYS, ([2, 1, 1, 0], [1, 2]), ([1, 1, 1, 0], [0, 0]), ([2, 0, 1, 0], [0, 1]),
                    ([2, 1, 0, 0], [0, 2]), ([5, 0, 0, 0], [0, 1]), ([0, 0, 0, 0], [0, 0]))

    def test_labels_below_0_tell_nothing_there(self):
        self.judged(PLAIN, ([-1, -1, -1, -1], [1, -1]), ([-1000, 0, -7, -1], [1, -1000]))
        self.judged(TWO_WAYS, ([-2, 1, -1, 0], [1, -2]), ([-1, -1, 0, 0], [0, 2]))

    def test_a_label_of_0_tells_something(self):
        self.judged(TWO_WAYS, ([-1, 0, -1, 0], [0, 1]), ([-1, -1, -1, 0], [1, -1]))

    def test_a_value_to_which_there_is_no_way(self):
        self.judged(PLAIN, ([-1, 0, -1, -1], [1, -1]), ([-1, -1, 0, -1], [1, -1]), ([-1, -1, -1, 0], [1, -1]))
        self.judged("holes 1\nvalues a b", ([0, 0], [1, 0]), ([1000, 0], [1, 1000]))

    def test_a_way_whose_label_is_below_0_or_the_states_or_less(self):
        text = "holes 1\nvalues a b\nat is a\nat 0 is b"
        self.judged(text, ([3, -1], [0, 0]), ([3, 0], [1, 3]), ([3, 2], [1, 3]), ([3, 3], [0, 0]), ([3, 4], [0, 0]),
                    ([1, 0], [1, 1]), ([1, 1], [0, 0]), ([0, 0], [0, 0]), ([0, -1], [0, 0]), ([1, -1], [0, 0]))

    def test_all_ways_to_the_value(self):
        self.judged(TWO_WAYS, ([3, 1, 2, 0], [1, 3]), ([3, 1, 3, 0], [0, 0]), ([3, 3, 1, 0], [0, 0]),
                    ([3, 1, -1, 0], [0, 0]), ([3, -1, 1, 0], [0, 0]))

    def test_one_value_is_enough(self):
        self.judged(PLAIN, ([1, 1, 0, 0], [1, 1]), ([1, 0, 1, 0], [1, 1]), ([1, 1, 1, 0], [0, 0]),
                    ([1, -1, 0, 0], [1, 1]), ([1, -1, 1, 0], [0, 0]), ([2, 3, 1, 0], [1, 2]))

    def test_only_what_is_let(self):
        # From a only b may be asked, so that c's label isn't looked at.
        self.judged(LET, ([1, 0, -1, 0], [1, 1]), ([1, 1, -1, 0], [0, 0]))
        self.judged(PLAIN, ([1, 1, 0, 0], [1, 1]))
        self.judged(LET.replace("let b c", "let b a"), ([1, 1, -1, 0], [0, 0]), ([2, 1, -1, 0], [1, 2]))

    def test_a_state_where_nothing_may_be_asked(self):
        self.judged(LET, ([1, 0, 0, 0], [0, 2]), ([1, 0, 1000, 0], [0, 2]), ([1, 0, -1, 0], [1, 1]))
        self.assertEqual(run(upper([0, 0]), upper([-1, 5]), upper([-1, -9])), [[0, 0], [0, 1], [1, -1]])


class Labels(unittest.TestCase):
    def test_as_many_as_states(self):
        for call in (lower, upper):
            for holes in range(1, 7):
                text, many = f"holes {holes}\nvalues a b", 2 ** holes
                for labels in ([], [0] * (many - 1), [0] * (many + 1), [0] * 2000):
                    with self.subTest(call=call, holes=holes, labels=len(labels)):
                        self.assertEqual(one(text, call(labels)), [-4])
                self.assertEqual(one(text, call([0] * many)), [1, 0])

    def test_the_range(self):
        for call in (lower, upper):
            for place in range(4):
                for wrong in (-1001, 1001, -9223372036854775808, 9223372036854775807):
                    labels = [0, 0, 0, 0]
                    labels[place] = wrong
                    self.assertEqual(one(PLAIN, call(labels)), [-4], (call, labels))
        self.assertEqual(after(PLAIN, lower([-1000] * 4), upper([-1000] * 4)), [[1, -1000], [1, -1000]])
        self.assertEqual(after(PLAIN, lower([1000] * 4), upper([1000] * 4)), [[0, 1], [0, 0]])
        self.assertEqual(run(lower([1000, -1000]), upper([-1000, 1000])), [[1, 1000], [0, 1]])

    def test_nothing_is_changed(self):
        seen = [TEXT, RANKS, CARD]
        calls = [lower([1, 0, 0, 0]), upper([1, 0, 0, 0]), lower([9, 0, 0, 0]), upper([0]), lower([2000, 0, 0, 0])]
        answered = after(PLAIN, change(1), *seen, *calls, *seen)
        self.assertEqual(answered[1:4], answered[-3:])


class AsTheWordsTell(unittest.TestCase):
    def alike(self, model, draw):
        text, many = model.text(), 2 ** model.holes
        ranks = ranks_of(text)
        rows = [[1000 if rank == -1 else rank for rank in ranks], ranks]
        for step in range(12):
            row = list(rows[step % 2])
            for change_more in range(draw.randrange(1, 4)):
                row[draw.randrange(many)] += draw.choice([-3, -2, -1, 1, 2])
            rows.append([min(label, 1000) for label in row])
            rows.append([draw.randrange(-2, model.holes + 1) for state in range(many)])
        calls = [call(row) for row in rows for call in (lower, upper)]
        wanted = [judge(row) for row in rows for judge in (model.lower, model.upper)]
        self.assertEqual(after(text, *calls), wanted, text)
        return wanted

    def test_all_small_tables(self):
        draw = random.Random(11)
        for model in small_models():
            self.alike(model, draw)

    def test_tables_of_all_sizes(self):
        draw, seen = random.Random(12), []
        for model in mixed_models(96, 13):
            seen += [answer[0] for answer in self.alike(model, draw)]
        self.assertGreater(min(seen.count(0), seen.count(1)), 500, "accepted ones and others")
