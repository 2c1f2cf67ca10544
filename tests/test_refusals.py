"""The refusals -3, -5 and -4, and the order in which they are looked for."""

import unittest

from tests.helper import (
    CARD, RANKS, TEXT, TOLD, after, before, best, carry, change, far, go, known, lower, may, notch, one, run, upper,
    value, ways, worst)

FIELD = "holes 2\nvalues a b c\nat is a\nat 0 is b\nat 1 is c\nat 0 1 is a"
GREATEST = "holes 6\nvalues a b c d e f g h\nat is a\nat 0 1 2 3 4 5 is h"
LEAST_NUMBER, GREATEST_NUMBER = -9223372036854775808, 9223372036854775807

OUT_OF_STATES = (-1, 64, 65, LEAST_NUMBER, GREATEST_NUMBER)
OUT_OF_VALUES = (-1, 8, 9, LEAST_NUMBER, GREATEST_NUMBER)

WITH_A_STATE = [("value", value), ("ways", lambda s: ways(s, 0)), ("go", lambda s: go(s, 0)), ("worst", worst),
                ("carry", lambda s: carry(s, [])), ("carry 0", lambda s: carry(s, [0])),
                ("known", lambda s: known(s, 1)), ("known 3", lambda s: known(s, 3)), ("far", lambda s: far(s, [])),
                ("far 0", lambda s: far(s, [0])), ("may", lambda s: may(s, [])), ("may 0", lambda s: may(s, [0])),
                ("before", before)]
WITH_A_VALUE = [("ways", lambda w: ways(0, w)), ("go", lambda w: go(0, w)), ("change", change)]
WITH_A_ROW = [carry, far, may]


class Refusals(unittest.TestCase):
    def test_states_out_of_the_range(self):
        for name, call in WITH_A_STATE:
            for state in OUT_OF_STATES:
                with self.subTest(call=name, state=state):
                    self.assertEqual(after(FIELD, call(state)), [[-3]])
                    self.assertEqual(after(GREATEST, call(state)), [[-3]])

    def test_states_that_the_field_has_not(self):
        for name, call in WITH_A_STATE:
            for state in (4, 5, 63):
                with self.subTest(call=name, state=state):
                    self.assertEqual(after(FIELD, call(state)), [[-5]])

    def test_the_last_state_that_the_field_has(self):
        for name, call in WITH_A_STATE:
            with self.subTest(call=name):
                self.assertGreaterEqual(one(FIELD, call(3))[0], 0)
                self.assertGreaterEqual(one(GREATEST, call(63))[0], 0)
                self.assertGreaterEqual(one(FIELD, call(0))[0], 0)

    def test_values_out_of_the_range(self):
        for name, call in WITH_A_VALUE:
            for asked in OUT_OF_VALUES:
                with self.subTest(call=name, value=asked):
                    self.assertEqual(after(FIELD, call(asked)), [[-3]])
                    self.assertEqual(after(GREATEST, call(asked)), [[-3]])

    def test_values_that_the_field_has_not(self):
        for name, call in WITH_A_VALUE:
            for asked in (3, 4, 7):
                with self.subTest(call=name, value=asked):
                    self.assertEqual(after(FIELD, call(asked)), [[-5]])

    def test_the_last_value_that_the_field_has(self):
        for name, call in WITH_A_VALUE:
            with self.subTest(call=name):
                self.assertGreaterEqual(one(FIELD, call(2))[0], 0)
                self.assertGreaterEqual(one(GREATEST, call(7))[0], 0)

    def test_holes(self):
        for hole in (-1, 6, 7, LEAST_NUMBER, GREATEST_NUMBER):
            self.assertEqual(after(FIELD, notch(hole), CARD), [[-3], [0, 1, 0, 1]])
            self.assertEqual(after(GREATEST, notch(hole), CARD), [[-3], [0, 1, 0, 0]])
        for hole in (2, 3, 5):
            self.assertEqual(after(FIELD, notch(hole), CARD), [[-5], [0, 1, 0, 1]])
        self.assertEqual([one(FIELD, notch(1)), one(GREATEST, notch(5))], [[2], [32]])

    def test_at_a_lines_beginning(self):
        self.assertEqual(run(value(1), value(2), value(64), worst(2), ways(0, 0), go(1, 7), go(0, 8), carry(2, [])),
                         [[0, 0], [-5], [-3], [-5], [-5], [-5], [-3], [-5]])

    def test_the_state_before_the_value(self):
        for call in (ways, go):
            self.assertEqual(after(FIELD, call(64, 8), call(64, 7), call(4, 8), call(4, -1), call(4, 7), call(-1, 3)),
                             [[-3], [-3], [-5], [-5], [-5], [-3]])
            self.assertEqual(after(FIELD, call(3, 8), call(3, 3)), [[-3], [-5]])

    def test_the_state_before_the_row(self):
        for call in WITH_A_ROW:
            for row in ([3], [-1], 61 * [0]):
                self.assertEqual(after(FIELD, call(64, row), call(4, row), call(3, row)), [[-3], [-5], [-4]])

    def test_the_state_before_how_many_changes(self):
        self.assertEqual(after(FIELD, known(64, 4), known(-1, 0), known(4, 4), known(4, 0), known(3, 4), known(3, 0)),
                         [[-3], [-3], [-5], [-5], [-3], [-3]])

    def test_the_numbers_before_what_the_card_does_not_bear(self):
        self.assertEqual(after(FIELD, change(8), change(3), change(1), change(2), change(8), change(3)),
                         [[-3], [-5], [1, 1], [-7], [-3], [-5]])
        self.assertEqual(after(FIELD, notch(1), notch(1), notch(2), notch(6)), [[2], [-6], [-5], [-3]])

    def test_a_refusal_changes_nothing(self):
        seen = [TOLD, TEXT, RANKS, CARD]
        refused = [(value(4), -5), (value(64), -3), (ways(0, 3), -5), (ways(0, 8), -3), (go(4, 0), -5),
                   (go(0, -1), -3), (worst(-1), -3), (carry(0, [3]), -4), (lower([0]), -4), (upper([1001] * 4), -4),
                   (known(0, 4), -3), (far(0, [-1]), -4), (may(4, []), -5), (best(3, 4), -9), (best(0, 1), -3),
                   (change(2), -7), (change(3), -5), (notch(0), -6), (notch(2), -5), (before(4), -5)]
        answered = after(FIELD, change(1), *seen, *[call for call, number in refused], *seen)
        self.assertEqual(answered[1:5], answered[-4:])
        self.assertEqual(answered[5:-4], [[number] for call, number in refused])
        answered = after(FIELD + "\nlet a b", *seen, change(2), *seen)
        self.assertEqual(answered, answered[:4] + [[-6]] + answered[:4])
