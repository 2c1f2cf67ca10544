"""known, far and may: rows that somebody knows beforehand."""

import random
import unittest

from tests.helper import (
    CARD, LET, PLAIN, RANKS, TEXT, after, carry, change, far, known, may, mixed_models, one, run,
    small_models, text_of)

# From state 0 two ways lead to b: from state 1 only c is reached, from state 2 only a.
TORN = "holes 3\nvalues a b c\nat is a\nat 0 is b\nat 1 is b\nat 0 2 is c\nat 1 2 is a"

# Both values are reached from state 0, but neither from the other.
APART = "holes 2\nvalues a b\nat 0 is a\nat 1 is b"


class May(unittest.TestCase):
    def test_the_empty_row(self):
        self.assertEqual(after(PLAIN, may(0, []), may(3, [])), [[1, 0], [1, 3]])
        self.assertEqual(run(may(0, []), may(1, [])), [[1, 0], [1, 1]])

    def test_each_way(self):
        self.assertEqual(after(PLAIN, may(0, [1]), may(0, [2]), may(0, [1, 0]), may(1, [0])),
                         [[1, 1], [1, 2], [1, 3], [1, 3]])
        self.assertEqual(after(TORN, may(0, [1]), may(0, [1, 0]), may(0, [1, 2]), may(0, [2])),
                         [[2, 1, 2], [1, 6], [1, 5], [1, 5]])

    def test_a_value_that_the_state_has_already(self):
        # State 3 has it too, but there's no way to the own value.
        self.assertEqual(after(PLAIN, may(0, [0]), may(0, [0, 0, 0]), may(0, [0, 1, 1])), [[1, 0], [1, 0], [1, 1]])
        self.assertEqual(one("holes 2\nvalues a b\nat 0 is a\nat 1 is a\nat 0 1 is a", may(0, [0, 0])), [3, 1, 2, 3])

    def test_a_value_that_may_not_be_asked(self):
        self.assertEqual(after(LET, may(0, [2]), may(1, [0]), may(0, [1, 2]), may(2, [0]), may(2, [2])),
                         [[0], [0], [0], [0], [1, 2]])

    def test_a_value_that_may_be_asked_in_a_later_state_only(self):
        text = "holes 2\nvalues a b c\nlet a b\nlet b c\nat is a\nat 0 is b\nat 0 1 is c"
        self.assertEqual(after(text, may(0, [2]), may(0, [1, 2]), may(0, [2, 1])), [[0], [1, 3], [0]])

    def test_without_a_value_every_value_may_be_asked(self):
        text = "holes 2\nvalues a b c\nlet a b\nat 0 is c\nat 1 is c\nat 0 1 is a"
        self.assertEqual(after(text, may(0, [2]), may(0, [0]), may(0, [1]), may(0, [2, 0])),
                         [[2, 1, 2], [1, 3], [0], [0]])

    def test_no_state_is_left(self):
        self.assertEqual(after(PLAIN, may(0, [1, 2]), may(0, [1, 2, 0]), may(3, [1]), may(3, [1, 0])),
                         [[0], [0], [0], [0]])

    def test_rising_and_each_state_once(self):
        text = "holes 3\nvalues a b\nat is a\nat 0 is b\nat 1 is b\nat 2 is b\nat 0 1 is a\nat 0 2 is a\nat 0 1 2 is a"
        self.assertEqual(after(text, may(0, [1]), may(0, [1, 0]), may(2, [0])), [[3, 1, 2, 4], [3, 3, 5, 7], [2, 3, 7]])

    def test_64_states(self):
        parity = text_of(6, ["a", "b"], [None] + [bin(state).count("1") % 2 for state in range(1, 64)])
        odd = [state for state in range(64) if bin(state).count("1") % 2 == 1]
        self.assertEqual(one(parity, may(0, [1])), [32] + odd)
        self.assertEqual(one(parity, may(0, [1, 0, 1, 0, 1, 0])), [1, 63])
        self.assertEqual(one(parity, may(0, 10 * [1] + 10 * [0] + 40 * [1])),
                         [26] + [state for state in odd if state.bit_count() > 1])


class Far(unittest.TestCase):
    def test_none_some_and_all(self):
        self.assertEqual(after(PLAIN, far(1, [2]), far(1, [2, 0]), far(0, [1, 2]), far(0, [1, 0, 1]), far(0, [1, 0])),
                         [[0], [0], [1], [2], [2]])

    def test_the_empty_row(self):
        self.assertEqual(after(PLAIN, far(0, []), far(3, [])), [[0], [0]])
        self.assertEqual(run(far(1, [])), [[0]])

    def test_who_knows_the_row_carries_it_farther(self):
        self.assertEqual(after(TORN, carry(0, [1, 0]), far(0, [1, 0]), carry(0, [1, 2]), far(0, [1, 2])),
                         [[0, 1, 1], [2], [1, 2, 1, 5], [2]])

    def test_what_may_not_be_asked_ends_the_row(self):
        self.assertEqual(after(LET, far(0, [2]), far(0, [1, 0]), far(0, [1, 1, 1, 0, 1])), [[0], [1], [3]])

    def test_a_value_that_the_state_has_already(self):
        self.assertEqual(after(PLAIN, far(0, [0, 0, 0]), far(0, [0, 1, 1, 0, 0, 2])), [[3], [5]])

    def test_what_comes_behind_is_not_looked_at(self):
        self.assertEqual(after(PLAIN, far(0, [1, 2, 1, 1, 1]), far(3, [1, 0, 0, 0])), [[1], [0]])


class Rows(unittest.TestCase):
    def test_of_60_and_of_61_values(self):
        self.assertEqual(after(PLAIN, far(0, 60 * [0]), far(0, 61 * [0]), far(0, 2000 * [0]), far(0, 61 * [3])),
                         [[60], [-4], [-4], [-4]])
        self.assertEqual(after(PLAIN, may(0, 60 * [0]), may(0, 61 * [0]), may(0, 2000 * [0]), may(0, 61 * [3])),
                         [[1, 0], [-4], [-4], [-4]])

    def test_values_that_there_are_not(self):
        for call in (far, may):
            for wrong in (-1, 3, 7, 8, -9223372036854775808, 9223372036854775807):
                for row in ([wrong], [0, wrong], [wrong, 0], [1, 2, wrong, 1], 59 * [0] + [wrong]):
                    with self.subTest(call=call, row=row):
                        self.assertEqual(one(PLAIN, call(0, row)), [-4])
            self.assertEqual(run(call(0, [0])), [[-4]])
            self.assertGreaterEqual(one(PLAIN, call(0, [2]))[0], 0)

    def test_nothing_is_changed(self):
        seen = [TEXT, RANKS, CARD]
        answered = after(PLAIN, change(1), *seen, far(0, [1, 0]), may(0, [1]), known(0, 3), far(0, [3]), may(4, []),
                         known(0, 4), *seen)
        self.assertEqual(answered[1:4], answered[-3:])


class Known(unittest.TestCase):
    def test_rows_of_one_two_and_three_changes(self):
        self.assertEqual(after(PLAIN, known(1, 1), known(3, 1), known(0, 1)), [[0, 1, 2], [0, 1, 1], [1]])
        self.assertEqual(after(PLAIN, known(0, 2)), [[0, 2, 1, 2]])
        self.assertEqual(after(PLAIN, known(0, 3)), [[0, 3, 1, 0, 1]])

    def test_a_row_with_a_lesser_first_value_comes_ahead_if_it_is_longer(self):
        self.assertEqual(after(PLAIN, known(1, 1), known(1, 2), known(1, 3)), [[0, 1, 2], [0, 2, 0, 1], [0, 2, 0, 1]])
        self.assertEqual(after(PLAIN, known(0, 2), known(0, 3)), [[0, 2, 1, 2], [0, 3, 1, 0, 1]])

    def test_the_lesser_of_several(self):
        self.assertEqual(after(PLAIN, known(3, 1), known(3, 3)), [[0, 1, 1], [0, 1, 1]])
        self.assertEqual(one("holes 1\nvalues a b c d\nat is b", known(0, 3)), [0, 1, 0])

    def test_there_is_none(self):
        parity = text_of(6, ["a", "b"], [bin(state).count("1") % 2 for state in range(64)])
        self.assertEqual(after(parity, known(0, 3), known(7, 3), known(31, 1)), [[1], [1], [1]])
        self.assertEqual(after(parity, known(15, 3), known(31, 3), known(31, 2), known(63, 1)),
                         [[0, 3, 1, 0, 1], [0, 2, 0, 1], [0, 2, 0, 1], [0, 1, 1]])

    def test_where_nothing_may_be_asked(self):
        self.assertEqual(run(known(0, 1), known(1, 3)), [[1], [1]])
        self.assertEqual(after("holes 1\nvalues a\nat is a", known(0, 3), known(1, 3)), [[1], [0, 1, 0]])
        self.assertEqual(one(LET, known(2, 3)), [1])

    def test_from_a_state_with_a_value(self):
        # If the own value might be asked first, the row a, b, c would come ahead.
        self.assertEqual(one(PLAIN, known(0, 3)), [0, 3, 1, 0, 1])
        self.assertEqual(one("holes 1\nvalues a b\nat is a\nat 0 is b", known(0, 1)), [1])
        self.assertEqual(one("holes 1\nvalues a b\nat 0 is b", known(1, 1)), [0, 1, 0])

    def test_from_a_state_without_a_value(self):
        self.assertEqual(one("holes 1\nvalues a b\nat 0 is b", known(0, 1)), [0, 1, 0])
        self.assertEqual(after(APART, known(0, 1), known(0, 2)), [[1], [0, 2, 0, 1]])
        text = "holes 2\nvalues a b\nlet a b\nat 0 is a\nat 0 1 is b"
        self.assertEqual(after(text, known(0, 3), known(2, 3)), [[1], [0, 1, 0]])

    def test_with_changes_let(self):
        self.assertEqual(after(LET, known(0, 1), known(0, 2), known(0, 3), known(1, 1)),
                         [[1], [0, 2, 1, 2], [0, 2, 1, 2], [0, 1, 2]])
        self.assertEqual(one("holes 2\nvalues a b c\nlet a b\nlet b c\nat is a\nat 0 is b\nat 0 1 is c", known(0, 3)),
                         [1])

    def test_what_the_first_change_may_be_is_not_what_the_second_may_be(self):
        # Where b stands a may be asked, but not c.
        text = "holes 2\nvalues a b c\nlet a b\nlet b a\nlet a c\nat is a\nat 0 is b\nat 0 1 is a\nat 1 is c"
        self.assertEqual(after(text, known(0, 1), known(0, 2), known(0, 3)), [[1], [1], [0, 3, 1, 0, 1]])

    def test_another_way_saves_the_row(self):
        self.assertEqual(after(TORN, known(1, 1), known(2, 1), known(0, 1), known(0, 2)),
                         [[0, 1, 0], [0, 1, 2], [1], [0, 2, 2, 0]])

    def test_k_from_1_to_3(self):
        for k in (0, 4, -1, 5, -9223372036854775808, 9223372036854775807):
            with self.subTest(k=k):
                self.assertEqual(after(PLAIN, known(0, k), known(3, k)), [[-3], [-3]])
        for k in (1, 2, 3):
            self.assertGreaterEqual(one(PLAIN, known(0, k))[0], 0)

    def test_the_state_before_k(self):
        self.assertEqual(after(PLAIN, known(4, 0), known(4, 4), known(64, 0), known(4, 1), known(3, 0)),
                         [[-5], [-5], [-3], [-5], [-3]])


class AsTheWordsTell(unittest.TestCase):
    def alike(self, model, draw, states):
        calls, wanted = [], []
        for s in states:
            rows = [[draw.randrange(model.count) for step in range(draw.randrange(8))] for more in range(4)]
            rows.append(model.worst(s))
            calls += [call(s, row) for row in rows for call in (may, far)]
            for row in rows:
                wanted += [[len(model.may(s, row))] + model.may(s, row), [model.far(s, row)]]
            k = draw.randrange(1, 4)
            calls.append(known(s, k))
            wanted.append(model.known(s, k))
        self.assertEqual(after(model.text(), *calls), wanted, model.text())

    def test_all_small_tables(self):
        draw = random.Random(21)
        for model in small_models():
            self.alike(model, draw, model.states())

    def test_tables_of_all_sizes(self):
        draw = random.Random(22)
        for model in mixed_models(144, 23):
            self.alike(model, draw, [0] + [draw.choice(model.states()) for more in range(3)])

    def test_behind_a_row_all_states_have_its_last_value(self):
        for model in mixed_models(48, 24):
            for w in range(model.count):
                states = one(model.text(), may(0, [w]))[1:]
                self.assertTrue(all(model.table[s] == w for s in states), model.text())
