"""value, ways, ranks, go, worst and carry: the table and what follows from it."""

import unittest

from tests.helper import (
    LET, PLAIN, RANKS, Model, after, carry, go, mixed_models, one, ranks_of, run, shown, small_models, value, ways,
    worst)

# Four values, changed twice, by three holes.
TWICE = ("holes 3\nvalues a b c d\nat is a\nat 0 is b\nat 1 is c\nat 0 1 is d\n"
         "at 2 is d\nat 0 2 is c\nat 1 2 is b\nat 0 1 2 is a")


class Value(unittest.TestCase):
    def test_every_other_value_may_be_asked(self):
        self.assertEqual(after(PLAIN, value(0), value(1), value(2), value(3)),
                         [[1, 2, 1, 2], [2, 2, 0, 2], [3, 2, 0, 1], [1, 2, 1, 2]])

    def test_only_what_is_let(self):
        self.assertEqual(after(LET, value(0), value(1), value(2), value(3)),
                         [[1, 1, 1], [2, 1, 2], [3, 0], [1, 1, 1]])

    def test_without_a_value_every_value_may_be_asked(self):
        text = "holes 1\nvalues a b c\nat 0 is b"
        self.assertEqual(after(text, value(0), value(1)), [[0, 3, 0, 1, 2], [2, 2, 0, 2]])
        self.assertEqual(after(text + "\nlet a b", value(0), value(1)), [[0, 3, 0, 1, 2], [2, 0]])

    def test_one_value(self):
        self.assertEqual(after("holes 1\nvalues a\nat 0 is a", value(0), value(1)), [[0, 1, 0], [1, 0]])

    def test_the_list_rises_in_whatever_order_the_lets_are_told(self):
        self.assertEqual(one("holes 1\nvalues a b c d\nat is b\nlet b d\nlet a c\nlet b c\nlet b a", value(0)),
                         [2, 3, 0, 2, 3])

    def test_eight_values(self):
        text = "holes 6\nvalues a b c d e f g h\nat 5 is h\nat 0 1 2 3 4 5 is a"
        self.assertEqual(after(text, value(0), value(32), value(63)),
                         [[0, 8, 0, 1, 2, 3, 4, 5, 6, 7], [8, 7, 0, 1, 2, 3, 4, 5, 6],
                          [1, 7, 1, 2, 3, 4, 5, 6, 7]])


class Ways(unittest.TestCase):
    def test_rising(self):
        text = "holes 3\nvalues a b\nat 0 1 2 is a\nat 2 is a\nat 0 1 is a\nat 0 is a\nat is a\nat 1 is b"
        self.assertEqual(after(text, ways(0, 0), ways(0, 1), ways(1, 0), ways(2, 0), ways(4, 0)),
                         [[4, 1, 3, 4, 7], [1, 2], [2, 3, 7], [2, 3, 7], [1, 7]])

    def test_the_state_itself_is_none(self):
        self.assertEqual(after(PLAIN, ways(1, 1), ways(3, 0)), [[0], [0]])

    def test_a_greater_number_without_all_notches_is_none(self):
        self.assertEqual(after(PLAIN, ways(1, 2), ways(1, 0), ways(2, 0)), [[0], [1, 3], [1, 3]])

    def test_to_the_states_own_value(self):
        self.assertEqual(one(PLAIN, ways(0, 0)), [1, 3])

    def test_whether_it_is_let_is_not_looked_at(self):
        self.assertEqual(one(LET, ways(0, 2)), [1, 2])

    def test_a_value_that_no_state_has(self):
        self.assertEqual(one("holes 1\nvalues a b\nat 0 is a", ways(0, 1)), [0])

    def test_six_holes(self):
        text = "holes 6\nvalues a\nat 5 is a\nat 0 5 is a\nat 0 1 2 3 4 5 is a"
        self.assertEqual(after(text, ways(0, 0), ways(1, 0), ways(32, 0), ways(62, 0), ways(63, 0)),
                         [[3, 32, 33, 63], [2, 33, 63], [2, 33, 63], [1, 63], [0]])


class Ranks(unittest.TestCase):
    def test_four_values_changed_twice_by_three_holes(self):
        self.assertEqual(one(TWICE, RANKS), [8, 2, 1, 1, 0, 1, 0, 0, 0])

    def test_with_an_end(self):
        self.assertEqual(one(PLAIN, RANKS), [4, 1, 0, 0, 0])

    def test_with_changes_let(self):
        # From c nothing is let, so c has no end; b leads there by no way.
        self.assertEqual(one(LET, RANKS), [4, 1, 0, -1, 0])

    def test_an_end_is_less_than_none(self):
        text = "holes 2\nvalues a b\nlet a b\nat is a\nat 0 is b\nat 1 is a\nat 0 1 is b"
        self.assertEqual(one(text, RANKS), [4, -1, -1, -1, -1])

    def test_the_least_over_the_values_of_the_greatest_over_the_ways(self):
        text = "holes 2\nvalues a b c\nlet a b\nlet a c\nlet b a\nat is a\nat 0 is b\nat 1 is c\nat 0 1 is a"
        self.assertEqual(one(text, RANKS), [4, 2, 1, -1, 0])

    def test_one_value(self):
        self.assertEqual(one("holes 1\nvalues a", RANKS), [2, 0, 0])
        self.assertEqual(one("holes 1\nvalues a\nat 0 is a", RANKS), [2, -1, -1])
        self.assertEqual(one("holes 1\nvalues a\nat is a", RANKS), [2, -1, 0])

    def test_as_many_changes_as_holes(self):
        table = [bin(state).count("1") % 2 for state in range(64)]
        wanted = [6 - bin(state).count("1") for state in range(64)]
        self.assertEqual(one(Model(6, 2, table).text(), RANKS), [64] + wanted)

    def test_six_holes_and_eight_values_without_a_way(self):
        self.assertEqual(one("holes 6\nvalues a b c d e f g h", RANKS), [64] + 64 * [0])


class Go(unittest.TestCase):
    def test_without_a_way(self):
        self.assertEqual(after(PLAIN, go(1, 2), go(3, 0), go(3, 1), go(1, 1)), [[0], [0], [0], [0]])

    def test_one_way(self):
        self.assertEqual(after(PLAIN, go(0, 1), go(0, 2), go(2, 0)), [[1, 1, 1, 0], [1, 2, 1, 0], [1, 3, 1, 0]])

    def test_the_least_of_several_with_the_same_rank(self):
        text = "holes 3\nvalues a b\nat is a\nat 1 is b\nat 2 is b\nat 0 1 is a\nat 0 2 is a"
        self.assertEqual(one(text, go(0, 1)), [1, 2, 1, 1])

    def test_the_greatest_rank_before_the_least_number(self):
        text = "holes 3\nvalues a b\nat is a\nat 0 is b\nat 1 is b\nat 1 2 is a"
        self.assertEqual(one(text, go(0, 1)), [1, 2, 1, 1])

    def test_the_greatest_rank_with_more_notches(self):
        text = "holes 3\nvalues a b\nat is a\nat 0 is b\nat 1 2 is b\nat 0 1 2 is a"
        self.assertEqual(one(text, go(0, 1)), [1, 1, 1, 1])
        text = "holes 4\nvalues a b\nat is a\nat 0 is b\nat 1 2 is b\nat 1 2 3 is a"
        self.assertEqual(one(text, go(0, 1)), [1, 6, 2, 1])
        text = "holes 3\nvalues a b\nat is a\nat 0 is b\nat 1 is b\nat 2 is b\nat 1 2 is a\nat 0 1 2 is b"
        self.assertEqual(one(text, go(0, 1)), [1, 2, 1, 2])

    def test_several_holes_are_notched(self):
        text = "holes 6\nvalues a b\nat 1 4 is a\nat 0 1 2 3 4 5 is b"
        self.assertEqual(after(text, go(18, 1), go(0, 1), go(0, 0)), [[1, 63, 4, 0], [1, 63, 6, 0], [1, 18, 2, 1]])

    def test_a_rank_without_end(self):
        self.assertEqual(one(LET, go(0, 2)), [1, 2, 1, -1])

    def test_no_end_before_every_rank(self):
        text = "holes 3\nvalues a b c\nlet b c\nat 0 is b\nat 1 is b\nat 1 2 is c"
        self.assertEqual(after(text, go(1, 2), go(2, 2), go(0, 1)), [[0], [1, 6, 1, -1], [1, 2, 1, -1]])

    def test_the_states_own_value(self):
        self.assertEqual(one(PLAIN, go(0, 0)), [1, 3, 2, 0])

    def test_what_may_not_be_asked(self):
        self.assertEqual(one("holes 1\nvalues a b c\nlet a c\nat is a\nat 0 is b", go(0, 1)), [1, 1, 1, -1])


class Worst(unittest.TestCase):
    def test_empty_where_nothing_may_be_asked(self):
        self.assertEqual(run(worst(0), worst(1)), [[0], [0]])
        self.assertEqual(after("holes 1\nvalues a\nat is a", worst(0), worst(1)), [[0], [1, 0]])
        self.assertEqual(one(LET, worst(2)), [0])

    def test_it_ends_with_the_first_value_without_a_way(self):
        self.assertEqual(after(PLAIN, worst(0), worst(1), worst(2), worst(3)),
                         [[2, 1, 2], [1, 2], [1, 1], [1, 1]])

    def test_the_first_value_that_leaves_the_rank(self):
        text = "holes 2\nvalues a b c\nat is a\nat 1 is b\nat 0 1 is c"
        self.assertEqual(after(text, RANKS, worst(0), worst(2)), [[4, 1, 0, 0, 0], [2, 1, 0], [1, 0]])
        text = "holes 2\nvalues a b c\nat is b\nat 0 is a\nat 1 is c\nat 0 1 is b"
        self.assertEqual(after(text, worst(0)), [[2, 0, 2]])

    def test_a_value_that_leaves_more_is_gone_past(self):
        text = "holes 2\nvalues a b c\nat is a\nat 0 is b\nat 0 1 is a"
        self.assertEqual(after(text, RANKS, worst(0), worst(1)), [[4, 0, 0, 0, 0], [1, 2], [1, 2]])

    def test_without_end(self):
        text = "holes 2\nvalues a b c\nlet a b\nlet b c\nat is a\nat 0 is b\nat 0 1 is c"
        self.assertEqual(after(text, RANKS, worst(0), worst(1), worst(3)),
                         [[4, -1, -1, 0, -1], [2, 1, 2], [1, 2], [0]])

    def test_four_values_changed_twice(self):
        self.assertEqual(after(TWICE, worst(0), worst(6)), [[3, 1, 0, 1], [1, 2]])


class Carry(unittest.TestCase):
    def test_the_empty_row(self):
        self.assertEqual(run(carry(0, []), carry(1, [])), [[1, 0], [1, 0]])
        self.assertEqual(one(PLAIN, carry(3, [])), [1, 0])

    def test_a_row_carried_out_whole(self):
        self.assertEqual(after(PLAIN, carry(0, [1]), carry(0, [2, 0])), [[1, 1, 1], [1, 2, 2, 3]])
        self.assertEqual(one(TWICE, carry(0, [3, 1])), [1, 2, 4, 6])

    def test_a_value_that_the_state_has_takes_no_notch(self):
        self.assertEqual(after(PLAIN, carry(0, [0]), carry(0, [0, 0, 1, 1, 0, 0])),
                         [[1, 1, 0], [1, 6, 0, 0, 1, 1, 3, 3]])
        self.assertEqual(one("holes 1\nvalues a\nat is a\nat 0 is a", carry(0, [0, 0])), [1, 2, 0, 0])

    def test_one_that_may_not_be_asked_ends_the_row(self):
        self.assertEqual(after(LET, carry(0, [2]), carry(0, [1, 0]), carry(0, [1, 2])),
                         [[0, 0], [0, 1, 1], [0, 1, 1]])

    def test_one_without_a_way_ends_the_row(self):
        self.assertEqual(after(PLAIN, carry(1, [2]), carry(0, [1, 2, 0, 0]), carry(3, [1])),
                         [[0, 0], [0, 1, 1], [0, 0]])

    def test_the_best_way_is_gone(self):
        text = "holes 3\nvalues a b\nat is a\nat 0 is b\nat 1 is b\nat 1 2 is a"
        self.assertEqual(one(text, carry(0, [1, 0, 1])), [0, 2, 2, 6])

    def test_from_a_state_without_a_value(self):
        self.assertEqual(one("holes 2\nvalues a b\nlet a b\nat 1 is a\nat 0 1 is b", carry(1, [1])), [1, 1, 3])
        self.assertEqual(one("holes 2\nvalues a b\nlet a b\nat 1 is a\nat 0 1 is b", carry(0, [0, 1, 0])),
                         [0, 2, 2, 3])

    def test_rows_of_60_and_of_61_values(self):
        self.assertEqual(after(PLAIN, carry(0, 60 * [0]), carry(0, 61 * [0]), carry(0, 60 * [1] + [0]),
                               carry(0, 2000 * [0])), [[1, 60] + 60 * [0], [-4], [-4], [-4]])

    def test_values_that_there_are_not(self):
        for wrong in (-1, 3, 7, 8, -9223372036854775808, 9223372036854775807):
            for row in ([wrong], [0, wrong], [wrong, 0], [2, 1, wrong, 1], 59 * [0] + [wrong]):
                with self.subTest(row=row):
                    self.assertEqual(one(PLAIN, carry(0, row)), [-4])

    def test_without_values_every_row_but_the_empty_one_is_refused(self):
        self.assertEqual(run(carry(0, [0])), [[-4]])

    def test_nothing_is_changed(self):
        self.assertEqual(after(PLAIN, carry(0, [1]), carry(0, [1]), value(0)), [[1, 1, 1], [1, 1, 1], [1, 2, 1, 2]])


class AsTheWordsTell(unittest.TestCase):
    """Each call beside the words gone through one by one."""

    def alike(self, model):
        text, values = model.text(), range(model.count)
        self.assertEqual(ranks_of(text), [shown(model.rank(s)) for s in model.states()])
        for s in model.states():
            own = 0 if model.table[s] is None else model.table[s] + 1
            asked, row = model.asked(s), model.worst(s)
            calls = [value(s), worst(s), carry(s, row), carry(s, list(values) * 2), carry(s, row[::-1])]
            wanted = [[own, len(asked)] + asked, [len(row)] + row]
            wanted += [model.carry(s, row), model.carry(s, list(values) * 2), model.carry(s, row[::-1])]
            for w in values:
                calls += [ways(s, w), go(s, w)]
                wanted += [[len(model.ways(s, w))] + model.ways(s, w), self.gone(model, s, w)]
            self.assertEqual(after(text, *calls), wanted, (text, s))

    def gone(self, model, state, w):
        way = model.best(state, w)
        if way is None:
            return [0]
        return [1, way, len(model.sets[way]) - len(model.sets[state]), shown(model.rank(way))]

    def test_all_small_tables(self):
        for model in small_models():
            self.alike(model)

    def test_tables_of_all_sizes(self):
        for model in mixed_models(96, 2):
            self.alike(model)
