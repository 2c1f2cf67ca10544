"""notchcards.fields.answers: how calls are told in one list, and how they are answered."""

import contextlib
import inspect
import io
import unittest

import notchcards.fields
from notchcards.fields import answers
from tests.helper import (
    CARD, CLEVER, NAMES, NEW, RANKS, TOLD, before, best, carry, change, codes, far, field, go, known, listed, look,
    lower, may, notch, run, text_of, upper, value, ways, worst)

TEXT = "holes 1\nvalues a b\nat is a\nat 0 is b"
SEVERAL = field(TEXT) + TOLD + value(0) + ways(0, 1) + RANKS + go(0, 1) + worst(0) + carry(0, [1]) + look("h") + [0]
ANSWERED = [3, 1, 2, 2, 4, 1, 2, 0, 2, 3, 1, 1, 1, 2, 1, 1, 3, 2, 1, 0, 4, 1, 1, 1, 0, 3, 2, 1, 0,
            3, 1, 1, 1, 2, 1, 0, 1, 0]
OTHERS = (field(TEXT) + lower([1, 0]) + lower([2, 0]) + upper([1, 0]) + upper([0, 0]) + known(0, 1) + known(0, 2)
          + far(0, [1, 0]) + may(0, [1]) + may(0, [1, 0]) + best(2, 2) + best(3, 4) + change(1) + change(0) + notch(0)
          + CARD + before(1) + before(0) + NEW + notch(0) + CARD)
OTHERS_ANSWERED = [3, 1, 2, 2, 2, 1, 1, 2, 0, 0, 2, 1, 1, 2, 0, 0, 1, 1, 4, 0, 2, 1, 0,
                   1, 1, 2, 1, 1, 1, 0, 5, 1, 0, 2, 1, 0, 1, -9, 2, 1, 1, 1, -7, 1, -6,
                   4, 1, 2, 1, 0, 2, 1, 0, 1, 0, 1, 0, 1, 1, 4, 1, 2, 0, 0]


class Interface(unittest.TestCase):
    def test_several_calls_in_one_list(self):
        self.assertEqual(answers(SEVERAL), ANSWERED)
        self.assertEqual(answers(OTHERS), OTHERS_ANSWERED)
        self.assertEqual(answers(SEVERAL + OTHERS), ANSWERED + OTHERS_ANSWERED)

    def test_the_count_before_each_answer(self):
        self.assertEqual(answers([0]), [1, 0])
        self.assertEqual(answers([4, 0, 4]), [4, 1, 0, 0, 0, 1, 0, 4, 1, 0, 0, 0])
        self.assertEqual(answers([3]), [15, 0] + codes("holes 1\nvalues"))
        self.assertEqual(answers([5, 64, 5, 2, 7]), [1, -3, 1, -5, 3, 2, -1, -1])

    def test_the_numbers_that_the_words_tell_and_no_others(self):
        self.assertEqual(answers([11, 2, 5, 6]), [2, 1, 5])
        self.assertEqual(answers([12, 2, -1, 0]), [2, 0, 1])
        self.assertEqual(answers([13, 0, 1]), [1, 1])
        self.assertEqual(answers([14, 0, 0]), [1, 0])
        self.assertEqual(answers([15, 1, 0]), [2, 1, 1])
        self.assertEqual(answers([16, 1, 2]), [3, 0, 0, 0])
        self.assertEqual(answers([17, 18, 0, 19, 0, 20, 21, 0]), [1, 0, 1, -5, 1, 1, 4, 1, 0, 0, -1, 1, 0])

    def test_empty_lists_and_numbers_that_look_like_calls(self):
        self.assertEqual(answers([1, 0, 2, 0, 10, 0, 0, 10, 1, 2, 4, 5, 4]),
                         [1, -1000, 2, 1, 0, 2, 1, 0, 1, -4, 4, 1, 0, 0, 0])

    def test_what_is_handed_in_stays_as_it_was(self):
        row = SEVERAL + OTHERS + look("\n") + [1, 2, 300, -1] + carry(0, [0, 1, 0, 1]) + lower([]) + may(0, [3])
        before = list(row)
        answers(row)
        self.assertEqual(row, before)

    def test_what_is_handed_in_is_never_changed(self):
        class Fixed(list):
            def refuse(self, *told):
                raise AssertionError("what was handed in is changed")

            append = extend = insert = pop = remove = clear = reverse = sort = refuse
            __setitem__ = __delitem__ = __iadd__ = __imul__ = refuse

        self.assertEqual(answers(Fixed(SEVERAL + OTHERS)), ANSWERED + OTHERS_ANSWERED)

    def test_what_is_given_back_is_a_list_of_its_own(self):
        first = answers([3])
        first.append(9)
        first[1] = 7
        self.assertEqual(answers([3]), [15, 0] + codes("holes 1\nvalues"))

    def test_a_second_time_begins_anew(self):
        answers(field(CLEVER) + change(2) + notch(0))
        self.assertEqual(run(TOLD, value(0), value(2), RANKS, CARD),
                         [[1, 0, 0, 0], [0, 0], [-5], [2, -1, -1], [0, 0, 0, -1]])
        self.assertEqual(answers(SEVERAL), answers(SEVERAL))
        self.assertEqual([answers(OTHERS), answers(OTHERS)], [OTHERS_ANSWERED, OTHERS_ANSWERED])

    def test_whole_numbers_alone_are_given_back(self):
        given = answers(SEVERAL + OTHERS + field(CLEVER) + RANKS + worst(0) + carry(0, [0]) + [3])
        self.assertIs(type(given), list)
        self.assertEqual({type(number) for number in given}, {int})

    def test_it_is_called_as_the_document_says(self):
        self.assertEqual(str(inspect.signature(notchcards.fields.answers)), "(calls)")
        self.assertEqual(answers(calls=[4]), [4, 1, 0, 0, 0])

    def test_it_prints_nothing(self):
        said = io.StringIO()
        with contextlib.redirect_stdout(said), contextlib.redirect_stderr(said):
            answers(SEVERAL + OTHERS)
        self.assertEqual(said.getvalue(), "")

    def test_100_calls_on_six_holes_and_eight_values(self):
        text = text_of(6, NAMES, [state * 5 % 8 for state in range(64)])
        calls = [field(text)]
        for state in range(33):
            calls += [go(state, 3), worst(state), carry(state, [1, 2, 3, 4])]
        answered = run(*calls)
        self.assertEqual(len(answered), 100)
        self.assertEqual(answered[0], [6, 8, 64])

    def test_50_fields_of_six_holes_and_eight_values_with_their_ranks(self):
        text = "holes 6\nvalues a b c d e f g h" + "".join(f"\nat {hole} is b" for hole in range(6))
        calls = 50 * [field(text), RANKS]
        self.assertLessEqual(sum(len(call) for call in calls), 16000)
        self.assertEqual(run(*calls), 50 * [[6, 8, 6], [64] + 64 * [0]])

    def test_a_row_of_2000_numbers(self):
        self.assertEqual(answers([10, 0] + listed(2000 * [0]) + [4]), [1, -4, 4, 1, 0, 0, 0])
