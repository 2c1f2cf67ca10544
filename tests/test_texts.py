"""clear, field, look, text and told: texts without a fault, and what they make of the field."""

import itertools
import unittest

from tests.helper import (
    CLEAR, CLEVER, NAMES, TEXT, TOLD, RANKS, after, codes, field, listed, look, mixed_models, one, run, text_of, value)

ALL_CHANGES = list(itertools.permutations(range(8), 2))


class Beginning(unittest.TestCase):
    calls = [TOLD, TEXT, RANKS, value(0), value(1), value(2)]
    answered = [[1, 0, 0, 0], [0] + codes("holes 1\nvalues"), [2, -1, -1], [0, 0], [0, 0], [-5]]

    def test_before_any_other_call(self):
        self.assertEqual(run(*self.calls), self.answered)

    def test_after_clear(self):
        self.assertEqual(after(CLEVER, CLEAR, *self.calls), [[0]] + self.answered)

    def test_clear_at_the_beginning_and_twice(self):
        self.assertEqual(run(CLEAR, CLEAR, TOLD), [[0], [0], [1, 0, 0, 0]])

    def test_a_field_after_clear(self):
        self.assertEqual(after(CLEVER, CLEAR, field("holes 2\nvalues x"), TOLD), [[0], [2, 1, 0], [2, 1, 0, 0]])

    def test_its_text_cannot_be_read_again(self):
        self.assertEqual(run(look("holes 1\nvalues")), [[1, 14]])


class Good(unittest.TestCase):
    """Texts without a fault, with what told answers after them."""

    def good(self, text, told):
        answered = run(look(text), TOLD, field(text), TOLD)
        self.assertEqual(answered, [[0], [1, 0, 0, 0], [told[0], told[1], told[3]], told])

    def test_the_least_field(self):
        self.good("holes 1\nvalues a", [1, 1, 0, 0])

    def test_each_number_of_holes(self):
        for holes in range(1, 7):
            with self.subTest(holes=holes):
                self.good(f"holes {holes}\nvalues a", [holes, 1, 0, 0])
                self.assertEqual(one(f"holes {holes}\nvalues a", RANKS)[0], 2 ** holes)

    def test_each_number_of_values(self):
        for count in range(1, 9):
            with self.subTest(count=count):
                self.good("holes 2\nvalues " + " ".join(NAMES[:count]), [2, count, 0, 0])

    def test_names_of_1_and_of_12_letters(self):
        self.good("holes 1\nvalues z abcdefghijkl mnopqrstuvwx\nat is abcdefghijkl\nat 0 is z", [1, 3, 0, 2])

    def test_words_of_the_form_as_names(self):
        self.good("holes 1\nvalues let at holes values iss i s\nlet let at\nlet at let\nat is at\nat 0 is let",
                  [1, 7, 2, 2])

    def test_all_holes_notched_and_none(self):
        self.good("holes 6\nvalues a\nat 0 1 2 3 4 5 is a\nat is a\nat 5 is a\nat 0 5 is a", [6, 1, 0, 4])

    def test_all_states_with_a_value(self):
        self.good(text_of(6, NAMES, [state % 8 for state in range(64)]), [6, 8, 0, 64])

    def test_lines_in_any_order(self):
        self.good("holes 1\nvalues a b\nat 0 is a\nlet b a\nat is b\nlet a b", [1, 2, 2, 2])

    def test_up_to_30_lets(self):
        for many in (0, 1, 2, 29, 30):
            with self.subTest(many=many):
                self.good(text_of(1, NAMES, [0, 1], ALL_CHANGES[-many:] if many else []), [1, 8, many, 2])

    def test_a_change_and_its_reverse(self):
        self.good("holes 1\nvalues a b\nlet a b\nlet b a", [1, 2, 2, 0])

    def test_a_field_takes_the_place_of_another(self):
        self.assertEqual(after(CLEVER, field("holes 1\nvalues u\nat is u"), TOLD, value(0), value(1), value(2)),
                         [[1, 1, 1], [1, 1, 0, 1], [1, 0], [0, 1, 0], [-5]])


class OneText(unittest.TestCase):
    def test_lets_in_the_order_told_and_states_rising(self):
        text = ("holes 3\nvalues pear fig\nat 0 1 2 is fig\nlet pear fig\nat 2 is pear\nat 0 1 is fig\n"
                "let fig pear\nat is fig\nat 0 is pear")
        wanted = ("holes 3\nvalues pear fig\nlet pear fig\nlet fig pear\nat is fig\nat 0 is pear\n"
                  "at 0 1 is fig\nat 2 is pear\nat 0 1 2 is fig")
        self.assertEqual(one(text, TEXT), [0] + codes(wanted))

    def test_lets_are_not_sorted(self):
        text = "holes 1\nvalues a b c\nlet c a\nlet a c\nlet b c\nlet a b"
        self.assertEqual(one(text, TEXT), [0] + codes(text))

    def test_only_names(self):
        text = "holes 6\nvalues zz a m"
        self.assertEqual(one(text, TEXT), [0] + codes(text))

    def test_it_is_read_as_the_same_field(self):
        for model in mixed_models(96, 1):
            first = after(model.text(), TEXT, TOLD, RANKS, *[value(s) for s in model.states()])
            second = run([1] + listed(first[0][1:]), TEXT, TOLD, RANKS, *[value(s) for s in model.states()])
            self.assertEqual(first[0], [0] + codes(model.text()))
            self.assertEqual(second[1:], first)


class Unchanged(unittest.TestCase):
    calls = [TOLD, TEXT, RANKS]

    def test_look_changes_nothing(self):
        for text in ("holes 1\nvalues other", "holes 9", ""):
            with self.subTest(text=text):
                answered = after(CLEVER, *self.calls, look(text), *self.calls)
                self.assertEqual(answered[:3], answered[4:])

    def test_a_refused_text_changes_nothing(self):
        for text in ("holes 9", "", "holes 1\nvalues other\nat 0 is other\nat 0"):
            with self.subTest(text=text):
                answered = after(CLEVER, *self.calls, field(text), *self.calls)
                self.assertEqual(answered[:3], answered[4:])

    def test_a_refused_text_at_the_beginning(self):
        self.assertEqual(run(field("holes 2\nvalues a a"), *Beginning.calls), [[-1017]] + Beginning.answered)

    def test_numbers_that_are_no_bytes_change_nothing(self):
        answered = after(CLEVER, *self.calls, [1, 1, 256], [2, 1, -1], *self.calls)
        self.assertEqual(answered[3:5], [[-1], [-1]])
        self.assertEqual(answered[:3], answered[5:])
