"""best: the greatest rank of all tables of so many holes and values, and the first such table."""

import unittest

from tests.helper import (
    CARD, LET, NAMES, NOT_REFUSED, PLAIN, RANKS, TEXT, TOLD, after, best, best_table, change, notch, one, ranks_of, run,
    text_of)


class Best(unittest.TestCase):
    def test_worked_out_by_hand(self):
        # With one hole there's a way to one value only.
        self.assertEqual(one(PLAIN, best(1, 2)), [0, 0, 0])
        # Each of a and b needs a way of its own; the sum is the least if the greater value stands at the lesser state.
        self.assertEqual(one(PLAIN, best(2, 2)), [1, 0, 2, 1, 0])
        self.assertEqual(one(PLAIN, best(2, 3)), [1, 0, 3, 2, 1])
        # Three ways aren't enough for four values, so that the empty table is the first.
        self.assertEqual(one(PLAIN, best(2, 4)), [0, 0, 0, 0, 0])

    def test_each_h_and_v_that_is_not_refused(self):
        for holes, count in NOT_REFUSED:
            with self.subTest(holes=holes, count=count):
                self.assertEqual(run(best(holes, count)), [best_table(holes, count)])

    def test_its_table_has_its_rank(self):
        for holes, count in NOT_REFUSED:
            with self.subTest(holes=holes, count=count):
                rank, *table = run(best(holes, count))[0]
                self.assertEqual(len(table), 2 ** holes)
                self.assertEqual(table[0], 0, "state 0 has no value")
                own = [None if number == 0 else number - 1 for number in table]
                self.assertEqual(ranks_of(text_of(holes, NAMES[:count], own))[0], rank)

    def test_the_first_of_three_holes(self):
        self.assertEqual(run(best(3, 2), best(3, 3)), [[2, 0, 2, 1, 2, 0, 1, 0, 0], [2, 0, 1, 2, 3, 3, 2, 1, 0]])

    def test_h_from_1_to_3(self):
        for holes in (0, 4, -1, 6, -9223372036854775808, 9223372036854775807):
            with self.subTest(holes=holes):
                self.assertEqual(run(best(holes, 2), best(holes, 8)), [[-3], [-3]])

    def test_v_from_2_to_8(self):
        for count in (1, 9, 0, -1, -9223372036854775808, 9223372036854775807):
            with self.subTest(count=count):
                self.assertEqual(run(best(1, count), best(3, count)), [[-3], [-3]])

    def test_too_many_tables(self):
        # 5 to the power 7 is 78125.
        for count in (4, 5, 6, 7, 8):
            with self.subTest(count=count):
                self.assertEqual(run(best(3, count)), [[-9]])

    def test_the_ranges_before_the_number_of_tables(self):
        self.assertEqual(run(best(4, 8), best(3, 9)), [[-3], [-3]])
        self.assertEqual(run(best(4, 1), best(0, 9)), [[-3], [-3]])

    def test_neither_is_one_of_the_fields_own(self):
        # The field has one hole and no values.
        self.assertEqual(run(TOLD, best(3, 2)), [[1, 0, 0, 0], [2, 0, 2, 1, 2, 0, 1, 0, 0]])
        # All changes are let, whatever the field lets.
        self.assertEqual(one(LET, best(2, 3)), [1, 0, 3, 2, 1])

    def test_the_field_and_the_card_stay_as_they_were(self):
        seen = [TEXT, TOLD, RANKS, CARD]
        for call in (best(2, 3), best(3, 3), best(3, 8), best(0, 0)):
            with self.subTest(call=call):
                parts = after(PLAIN, change(1), notch(1), *seen, call, *seen)
                self.assertEqual(parts[2:6], parts[-4:])
