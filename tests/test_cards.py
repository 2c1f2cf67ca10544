"""new, change, notch, card and before: the card, and where a state is reached from."""

import unittest

from tests.helper import (
    CARD, CLEAR, LET, NEW, PLAIN, RANKS, TEXT, TOLD, after, before, best, carry, change, far, field, go, known, look,
    lower, may, mixed_models, notch, one, run, small_models, upper, value, ways, worst)

BEGUN = [0, 0, 0, -1]


class New(unittest.TestCase):
    def test_after_changes_and_notches(self):
        self.assertEqual(after(PLAIN, change(1), notch(1), CARD, NEW, CARD),
                         [[1, 1], [3], [3, 1, 1, 0], [0], [0, 1, 0, 1]])

    def test_at_the_beginning_and_twice(self):
        self.assertEqual(run(NEW, NEW, CARD), [[0], [0], BEGUN])

    def test_the_field_stays(self):
        seen = [TEXT, TOLD, RANKS, value(0)]
        parts = after(LET, *seen, change(1), NEW, *seen)
        self.assertEqual(parts[:4], parts[-4:])

    def test_the_new_card_is_changed_by_itself(self):
        self.assertEqual(after(PLAIN, change(1), NEW, change(2), CARD), [[1, 1], [0], [2, 1], [2, 3, 1, 0]])


class Change(unittest.TestCase):
    def test_it_goes_to_the_best_ways_state(self):
        self.assertEqual(after(PLAIN, change(1), CARD, change(0), CARD),
                         [[1, 1], [1, 2, 1, 0], [3, 1], [3, 1, 2, 0]])
        text = "holes 3\nvalues a b\nat is a\nat 0 is b\nat 1 is b\nat 2 is b\nat 1 2 is a\nat 0 1 2 is b"
        self.assertEqual(after(text, change(1), change(0), change(1), CARD), [[2, 1], [6, 1], [7, 1], [7, 2, 3, 0]])

    def test_several_holes_are_notched(self):
        text = "holes 6\nvalues a b\nat 1 4 is a\nat 0 1 2 3 4 5 is b"
        self.assertEqual(after(text, change(0), change(1), CARD), [[18, 2], [63, 4], [63, 2, 2, 0]])

    def test_a_value_that_the_state_has_already(self):
        self.assertEqual(after(PLAIN, change(0), CARD, change(1), change(1), CARD),
                         [[0, 0], [0, 1, 0, 1], [1, 1], [1, 0], [1, 2, 1, 0]])
        self.assertEqual(after("holes 2\nvalues a b\nlet a b\nat is a\nat 0 is a", change(0), CARD),
                         [[0, 0], [0, 1, 0, 0]])

    def test_one_that_may_not_be_asked(self):
        self.assertEqual(after(LET, change(2), CARD, change(1), change(0), CARD, change(2), CARD),
                         [[-6], [0, 1, 0, 1], [1, 1], [-6], [1, 2, 1, 0], [-7], [1, 2, 1, 0]])

    def test_one_that_may_not_be_asked_ahead_of_one_without_a_way(self):
        text = "holes 1\nvalues a b c\nlet a b\nat is a"
        self.assertEqual(after(text, change(2), change(1), change(0)), [[-6], [-7], [0, 0]])

    def test_one_without_a_way(self):
        self.assertEqual(after(PLAIN, change(1), change(2), CARD, change(0), change(1), change(2), CARD),
                         [[1, 1], [-7], [1, 2, 1, 0], [3, 1], [-7], [-7], [3, 1, 2, 0]])

    def test_from_a_state_without_a_value(self):
        self.assertEqual(after("holes 2\nvalues a b\nlet a b\nat 0 is b", change(0), change(1), CARD),
                         [[-7], [1, 1], [1, 2, 1, -1]])

    def test_values_out_of_the_range_and_that_there_are_not(self):
        for wrong in (-1, 8, 9, -9223372036854775808, 9223372036854775807):
            self.assertEqual(after(PLAIN, change(wrong), CARD), [[-3], [0, 1, 0, 1]])
        for wrong in (3, 4, 7):
            self.assertEqual(after(PLAIN, change(wrong), CARD), [[-5], [0, 1, 0, 1]])
        self.assertEqual(run(change(0), change(7), change(8)), [[-5], [-5], [-3]])


class Notch(unittest.TestCase):
    def test_the_cards_state(self):
        self.assertEqual(after(PLAIN, notch(1), CARD, notch(0), CARD), [[2], [2, 3, 0, 0], [3], [3, 1, 0, 0]])
        self.assertEqual(after("holes 6\nvalues a", *[notch(hole) for hole in (5, 0, 3, 1, 4, 2)], CARD),
                         [[32], [33], [41], [43], [59], [63], [63, 0, 0, 0]])

    def test_no_change_is_counted(self):
        self.assertEqual(after(PLAIN, change(1), notch(1), CARD), [[1, 1], [3], [3, 1, 1, 0]])

    def test_a_hole_that_is_notched(self):
        self.assertEqual(after(PLAIN, notch(1), notch(1), CARD, notch(0), notch(0), notch(1)),
                         [[2], [-6], [2, 3, 0, 0], [3], [-6], [-6]])
        self.assertEqual(after(PLAIN, change(1), notch(0), CARD), [[1, 1], [-6], [1, 2, 1, 0]])

    def test_holes_out_of_the_range(self):
        for wrong in (-1, 6, 7, -9223372036854775808, 9223372036854775807):
            for text in (PLAIN, "holes 6\nvalues a"):
                self.assertEqual(one(text, notch(wrong)), [-3])

    def test_holes_that_the_field_has_not(self):
        for holes in range(1, 6):
            for wrong in range(holes, 6):
                self.assertEqual(after(f"holes {holes}\nvalues a", notch(wrong), CARD), [[-5], [0, 0, 0, 0]])
            self.assertEqual(one(f"holes {holes}\nvalues a", notch(holes - 1)), [2 ** (holes - 1)])

    def test_at_the_beginning(self):
        self.assertEqual(run(notch(1), notch(0), CARD, notch(0)), [[-5], [1], [1, 0, 0, -1], [-6]])


class Card(unittest.TestCase):
    def test_at_the_beginning(self):
        self.assertEqual(run(CARD), [BEGUN])

    def test_after_a_field(self):
        self.assertEqual(run(field(PLAIN), CARD, change(2), CARD, field(PLAIN), CARD),
                         [[2, 3, 4], [0, 1, 0, 1], [2, 1], [2, 3, 1, 0], [2, 3, 4], [0, 1, 0, 1]])
        self.assertEqual(after(PLAIN, change(2), notch(0), field("holes 1\nvalues a b\nat 0 is a"), CARD)[-1],
                         [0, 0, 0, 0])

    def test_after_clear(self):
        self.assertEqual(after(PLAIN, change(1), notch(1), CLEAR, CARD), [[1, 1], [3], [0], BEGUN])

    def test_a_rank_without_end(self):
        text = "holes 2\nvalues a b c\nlet a b\nlet b c\nat is a\nat 0 is b\nat 0 1 is c"
        self.assertEqual(after(text, CARD, change(1), CARD, change(2), CARD),
                         [[0, 1, 0, -1], [1, 1], [1, 2, 1, -1], [3, 1], [3, 3, 2, -1]])

    def test_a_refused_field_leaves_the_card(self):
        for refused, wanted in ((field("holes 9"), -1006), (field(""), -1000), ([1, 1, 256], -1), ([1, 1, -1], -1)):
            with self.subTest(refused=refused):
                self.assertEqual(after(PLAIN, change(1), notch(1), refused, CARD),
                                 [[1, 1], [3], [wanted], [3, 1, 1, 0]])

    def test_calls_that_tell_alone_leave_the_card(self):
        calls = [look(PLAIN), TEXT, TOLD, value(0), ways(0, 1), RANKS, go(0, 2), worst(0), carry(0, [1, 0]),
                 lower([1, 0, 0, 0]), upper([1, 0, 0, 0]), known(0, 3), far(0, [1, 0]), may(0, [1]), best(2, 2),
                 CARD, before(3)]
        for call in calls:
            with self.subTest(call=call):
                self.assertEqual(after(PLAIN, change(1), call, CARD)[-1], [1, 2, 1, 0])

    def test_no_change_is_made_on_another_list(self):
        run(field(PLAIN), change(1), notch(1))
        self.assertEqual(run(CARD), [BEGUN])


class Before(unittest.TestCase):
    def test_the_states_from_which_the_best_way_goes_there(self):
        self.assertEqual(after(PLAIN, before(0), before(1), before(2), before(3)),
                         [[0], [1, 0], [1, 0], [3, 0, 1, 2]])

    def test_a_state_without_a_value(self):
        self.assertEqual(after("holes 2\nvalues a\nat 0 is a", before(0), before(1), before(2), before(3)),
                         [[0], [1, 0], [0], [0]])
        self.assertEqual(run(before(0), before(1)), [[0], [0]])

    def test_what_may_be_asked_is_not_looked_at(self):
        # From a only b may be asked, and from c nothing.
        self.assertEqual(after(LET, before(2), before(3)), [[1, 0], [3, 0, 1, 2]])

    def test_the_states_own_value_is_not_looked_at(self):
        self.assertEqual(one("holes 2\nvalues a\nat is a\nat 0 is a\nat 0 1 is a", before(3)), [2, 1, 2])
        self.assertEqual(one("holes 2\nvalues a b\nat is a\nat 0 1 is a", before(3)), [3, 0, 1, 2])

    def test_the_least_number_of_several_best_ways(self):
        text = "holes 2\nvalues a b\nat 0 is a\nat 1 is a\nat 0 1 is a"
        self.assertEqual(after(text, RANKS, before(1), before(2), before(3)),
                         [[4, 0, 0, 0, 0], [1, 0], [0], [2, 1, 2]])

    def test_the_way_with_the_greatest_rank_alone(self):
        text = "holes 3\nvalues a b\nat is a\nat 0 is b\nat 1 is b\nat 1 2 is a"
        self.assertEqual(after(text, before(1), before(2), before(6)), [[0], [1, 0], [3, 0, 2, 4]])

    def test_states_with_fewer_notches_only(self):
        text = "holes 6\nvalues a\nat 5 is a\nat 0 5 is a\nat 0 1 2 3 4 5 is a"
        self.assertEqual(after(text, before(32), before(33), before(63)),
                         [[1, 0], [2, 1, 32], [60] + [s for s in range(63) if s not in (0, 1, 32)]])

    def test_as_the_words_tell(self):
        for model in [*small_models(), *mixed_models(96, 31)]:
            wanted = [[len(model.before(s))] + model.before(s) for s in model.states()]
            self.assertEqual(after(model.text(), *[before(s) for s in model.states()]), wanted, model.text())
