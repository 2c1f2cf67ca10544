"""The refusals -3, -5 and -4, and the order in which they are looked for."""

import unittest

from tests.helper import RANKS, TEXT, TOLD, after, carry, go, one, run, value, ways, worst

FIELD = "holes 2\nvalues a b c\nat is a\nat 0 is b\nat 1 is c\nat 0 1 is a"
GREATEST = "holes 6\nvalues a b c d e f g h\nat is a\nat 0 1 2 3 4 5 is h"
LEAST_NUMBER, GREATEST_NUMBER = -9223372036854775808, 9223372036854775807

OUT_OF_STATES = (-1, 64, 65, LEAST_NUMBER, GREATEST_NUMBER)
OUT_OF_VALUES = (-1, 8, 9, LEAST_NUMBER, GREATEST_NUMBER)

WITH_A_STATE = [("value", value), ("ways", lambda s: ways(s, 0)), ("go", lambda s: go(s, 0)), ("worst", worst),
                ("carry", lambda s: carry(s, [])), ("carry 0", lambda s: carry(s, [0]))]
WITH_A_VALUE = [("ways", lambda w: ways(0, w)), ("go", lambda w: go(0, w))]


class Refusals(unittest.TestCase):
    def test_states_out_of_the_range(self):
        for name, call in WITH_A_STATE:
            for state in OUT_OF_STATES:
                with self.subTest(call=name, state=state):
                    self.assertEqual(after(FIELD, call(state)), [[-3]])
                    self.assertEqual(after(GREATEST, call(state)), [[-3]])

    def test_states_that_the_field_has_not(self):
        for name, call in WITH_A_STATE:
            for state in (4, 5, 63):
                with self.subTest(call=name, state=state):
                    self.assertEqual(after(FIELD, call(state)), [[-5]])

    def test_the_last_state_that_the_field_has(self):
        for name, call in WITH_A_STATE:
            with self.subTest(call=name):
                self.assertGreaterEqual(one(FIELD, call(3))[0], 0)
                self.assertGreaterEqual(one(GREATEST, call(63))[0], 0)
                self.assertGreaterEqual(one(FIELD, call(0))[0], 0)

    def test_values_out_of_the_range(self):
        for name, call in WITH_A_VALUE:
            for asked in OUT_OF_VALUES:
                with self.subTest(call=name, value=asked):
                    self.assertEqual(after(FIELD, call(asked)), [[-3]])
                    self.assertEqual(after(GREATEST, call(asked)), [[-3]])

    def test_values_that_the_field_has_not(self):
        for name, call in WITH_A_VALUE:
            for asked in (3, 4, 7):
                with self.subTest(call=name, value=asked):
                    self.assertEqual(after(FIELD, call(asked)), [[-5]])

    def test_the_last_value_that_the_field_has(self):
        for name, call in WITH_A_VALUE:
            with self.subTest(call=name):
                self.assertGreaterEqual(one(FIELD, call(2))[0], 0)
                self.assertGreaterEqual(one(GREATEST, call(7))[0], 0)

    def test_at_a_lines_beginning(self):
        self.assertEqual(run(value(1), value(2), value(64), worst(2), ways(0, 0), go(1, 7), go(0, 8), carry(2, [])),
                         [[0, 0], [-5], [-3], [-5], [-5], [-5], [-3], [-5]])

    def test_the_state_before_the_value(self):
        for call in (ways, go):
            self.assertEqual(after(FIELD, call(64, 8), call(64, 7), call(4, 8), call(4, -1), call(4, 7), call(-1, 3)),
                             [[-3], [-3], [-5], [-5], [-5], [-3]])
            self.assertEqual(after(FIELD, call(3, 8), call(3, 3)), [[-3], [-5]])

    def test_the_state_before_the_row(self):
        for row in ([3], [-1], 61 * [0]):
            self.assertEqual(after(FIELD, carry(64, row), carry(4, row), carry(3, row)), [[-3], [-5], [-4]])

    def test_a_refusal_changes_nothing(self):
        seen = [TOLD, TEXT, RANKS]
        refused = [value(4), value(64), ways(0, 3), ways(0, 8), go(4, 0), go(0, -1), worst(-1), carry(0, [3])]
        answered = after(FIELD, *seen, *refused, *seen)
        self.assertEqual(answered[:3], answered[-3:])
        self.assertEqual(answered[3:-3], [[-5], [-3], [-5], [-3], [-5], [-3], [-3], [-4]])
