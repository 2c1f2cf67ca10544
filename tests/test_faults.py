"""The place of a text's fault. In the texts here the sign ^ stands before the place, and isn't in the text."""

import itertools
import unittest

from tests.helper import CLEVER, NAMES, TEXT, TOLD, after, codes, field, listed, look, run, text_of

HEAD = "holes 2\nvalues a b"


class Faults(unittest.TestCase):
    def faulty(self, *marked):
        for one in marked:
            with self.subTest(text=one):
                self.assertEqual(one.count("^"), 1)
                place = one.index("^")
                text = one.replace("^", "")
                answered = after(CLEVER, TOLD, TEXT, look(text), field(text), TOLD, TEXT)
                self.assertEqual(answered[2:4], [[1, place], [-1000 - place]])
                self.assertEqual(answered[:2], answered[4:])

    def test_words_that_cannot_stand_in_the_first_line(self):
        self.faulty("^values a", "^hole 1", "^holess 1", "^1", "^let", "^at", "^is", "^holes1\nvalues a",
                    "holes ^holes", "holes ^values", "holes ^a", "holes ^is", "holes^\n1", "holes ^1a\nvalues a",
                    "holes 1 ^1\nvalues a", "holes 1 ^values a", "holes 1 ^a")

    def test_words_that_cannot_stand_in_the_second_line(self):
        self.faulty("holes 1\n^value a", "holes 1\n^a", "holes 1\n^1", "holes 1\n^holes 1", "holes 1\n^at is a",
                    "holes 1\n^let a b", "holes 1\nvalues^\na", "holes 1\nvalues ^1", "holes 1\nvalues a ^1",
                    "holes 1\nvalues ^a1", "holes 1\nvalues ^a-b c", "holes 1\nvalues a ^b.")

    def test_words_that_cannot_stand_at_a_lines_beginning(self):
        self.faulty(HEAD + "\n^a b", HEAD + "\n^is a", HEAD + "\n^0 is a", HEAD + "\n^lets a b", HEAD + "\n^holes 1",
                    HEAD + "\n^values a", HEAD + "\nlet a b\n^b a", HEAD + "\nat is a\n^is b")

    def test_words_that_cannot_stand_behind_let(self):
        self.faulty(HEAD + "\nlet ^c a", HEAD + "\nlet ^0 a", HEAD + "\nlet ^let a", HEAD + "\nlet ^is a",
                    HEAD + "\nlet^\nlet a b", HEAD + "\nlet a ^c", HEAD + "\nlet a ^is b", HEAD + "\nlet a ^0",
                    HEAD + "\nlet a^\nlet a b", HEAD + "\nlet a b ^a", HEAD + "\nlet a b ^let b a",
                    HEAD + "\nlet a b ^is")

    def test_words_that_cannot_stand_behind_at(self):
        self.faulty(HEAD + "\nat ^a", HEAD + "\nat ^at is a", HEAD + "\nat^\nat is a", HEAD + "\nat 0 ^a",
                    HEAD + "\nat 0^\nat is a", HEAD + "\nat 0 1 ^let", HEAD + "\nat 0 is ^c", HEAD + "\nat 0 is ^0",
                    HEAD + "\nat 0 is ^is a", HEAD + "\nat is^\nat is a", HEAD + "\nat 0 is a ^b",
                    HEAD + "\nat 0 is a ^0", HEAD + "\nat 0 is a ^at 1 is a", HEAD + "\nat ^iss a")

    def test_two_blanks(self):
        self.faulty("holes ^ 1\nvalues a", "holes 1\nvalues ^ a", "holes 1\nvalues a ^ b", HEAD + "\nlet ^ a b",
                    HEAD + "\nlet a ^ b", HEAD + "\nat ^ is a", HEAD + "\nat 0 ^ is a", HEAD + "\nat 0 is ^ a",
                    HEAD + "\nat 0 is ^   a")

    def test_a_blank_or_a_lines_end_at_the_beginning(self):
        self.faulty("^ holes 1\nvalues a", "^\nholes 1\nvalues a", "^ ", "^\n", "^  ", "^\n\n", "^ \n", "^\n ")

    def test_a_blank_or_a_lines_end_at_the_end(self):
        self.faulty("holes ^", "holes 1 ^", "holes 1\n^", "holes 1\nvalues ^", "holes 1\nvalues a ^",
                    "holes 1\nvalues a\n^", HEAD + "\nlet a b ^", HEAD + "\nlet a b\n^", HEAD + "\nat 0 is a ^",
                    HEAD + "\nat 0 is a\n^", HEAD + "\nat ^", HEAD + "\nat 0 is ^", "holes^\n", HEAD + "\nlet a^\n")

    def test_a_blank_beside_a_lines_end(self):
        self.faulty("holes 1 ^\nvalues a", "holes 1\n^ values a", "holes 1\nvalues a ^\nat is a",
                    "holes 1\nvalues a\n^ at is a", HEAD + "\nat is a ^\nlet a b", HEAD + "\nat is a\n^ let a b",
                    HEAD + "\nlet a b ^\nlet b a", HEAD + "\nlet a b\n^ let b a", HEAD + "\nat 0 is a\n^ ",
                    HEAD + "\nat 0 is a ^\n")

    def test_two_lines_ends(self):
        self.faulty("holes 1\n^\nvalues a", "holes 1\nvalues a\n^\nat is a", HEAD + "\nlet a b\n^\nlet b a",
                    HEAD + "\nat is a\n^\n", HEAD + "\n^\n\nat is a")

    def test_words_missing_at_the_end(self):
        self.faulty("^", "holes^", "holes 1^", "holes 6\nvalues^", HEAD + "\nlet^", HEAD + "\nlet a^", HEAD + "\nat^",
                    HEAD + "\nat 0^", HEAD + "\nat 0 1^", HEAD + "\nat is^", HEAD + "\nat 0 1 is^",
                    HEAD + "\nat 0 is a\nat 0^", HEAD + "\nlet a b\nlet a^", "holes 1\nvalues a\nlet a^")

    def test_a_word_cut_off_at_the_end(self):
        self.faulty("^h", "^hole", "holes 1\n^v", "holes 1\n^value", HEAD + "\n^l", HEAD + "\n^le", HEAD + "\n^a",
                    HEAD + "\nat 0 ^i", "holes 1\nvalues abc abd\nat is ^ab")

    def test_numbers_with_a_0_at_the_beginning(self):
        self.faulty("holes ^01\nvalues a", "holes ^00", "holes ^006", HEAD + "\nat ^00 is a", HEAD + "\nat ^01 is a",
                    HEAD + "\nat 0 ^01 is a")

    def test_holes_beyond_the_range(self):
        self.faulty("holes ^0\nvalues a", "holes ^7\nvalues a", "holes ^8", "holes ^9", "holes ^10", "holes ^16",
                    "holes ^-1", "holes ^+1", "holes ^1.0", "holes ^123456789012345678901234567890",
                    HEAD + "\nat ^2 is a", HEAD + "\nat 0 ^2 is a", HEAD + "\nat 0 1 ^2 is a", HEAD + "\nat ^10 is a",
                    HEAD + "\nat ^-0 is a", HEAD + "\nat ^9999999999999999999999 is a",
                    "holes 1\nvalues a\nat ^1 is a", "holes 6\nvalues a\nat 0 1 2 3 4 5 ^6 is a")

    def test_holes_that_do_not_rise(self):
        self.faulty(HEAD + "\nat 0 ^0 is a", HEAD + "\nat 1 ^0 is a", HEAD + "\nat 1 ^1 is a",
                    HEAD + "\nat 0 1 ^1 is a", HEAD + "\nat 0 1 ^0 is a", "holes 6\nvalues a\nat 1 3 ^2 is a")

    def test_names_told_twice(self):
        self.faulty("holes 1\nvalues a ^a", "holes 1\nvalues a b ^a", "holes 1\nvalues ab b ^ab c",
                    "holes 1\nvalues a b c d e f g ^a\nlet x")

    def test_the_name_is(self):
        self.faulty("holes 1\nvalues ^is", "holes 1\nvalues a ^is b")

    def test_a_name_of_13_letters(self):
        self.faulty("holes 1\nvalues ^abcdefghijklm", "holes 1\nvalues abcdefghijkl ^bcdefghijklmn",
                    "holes 1\nvalues ^" + 40 * "a")

    def test_names_with_other_signs_than_a_to_z(self):
        self.faulty("holes 1\nvalues ^A", "holes 1\nvalues ^aB", "holes 1\nvalues ^a_b", "holes 1\nvalues ^a`",
                    "holes 1\nvalues ^{", "holes 1\nvalues ^a?", "holes 1\nvalues ^Z a", "^Holes 1", "^HOLES 1")

    def test_a_ninth_value(self):
        self.faulty("holes 1\nvalues a b c d e f g h ^i", "holes 1\nvalues a b c d e f g h ^a",
                    "holes 1\nvalues a b c d e f g h ^is\nat is a")

    def test_a_change_to_the_same_value(self):
        self.faulty(HEAD + "\nlet a ^a", HEAD + "\nlet a b\nlet b ^b", "holes 1\nvalues a\nlet a ^a")

    def test_a_change_let_twice(self):
        self.faulty(HEAD + "\nlet a b\nlet a ^b", HEAD + "\nlet b a\nlet a b\nat is a\nlet b ^a\nlet b a")

    def test_a_31st_let(self):
        changes = list(itertools.permutations(range(8), 2))
        text = text_of(1, NAMES, [None, None], changes[:30])
        self.faulty(text + "\n^let h a", text + "\n^let", text + "\n^let h h", text + "\n^let a b",
                    text + "\nat is a\n^let h a")

    def test_a_state_told_twice(self):
        self.faulty(HEAD + "\nat is a\nat ^is b", HEAD + "\nat is a\nat ^is a", HEAD + "\nat 0 1 is a\nat 0 1 ^is b",
                    HEAD + "\nat 0 is a\nat 1 is b\nlet a b\nat 0 ^is a", HEAD + "\nat 0 is a\nat 0 ^b")

    def test_the_first_fault_of_several(self):
        self.faulty("holes ^7\nvalue a", "holes 1\nvalues ^is is", HEAD + "\nlet ^c c\nat 9", HEAD + "\nat ^7 6 is z ")


class Bytes(unittest.TestCase):
    """Bytes told as numbers, those too that stand for nothing in a text."""

    start = codes("holes 1\nvalues ")

    def test_bytes_that_stand_for_nothing(self):
        for byte in range(256):
            if byte in (10, 32) or chr(byte) in "abcdefghijklmnopqrstuvwxyz":
                continue
            with self.subTest(byte=byte):
                text = self.start + codes("a") + [byte] + codes(" b")
                self.assertEqual(run([2] + listed(text), [1] + listed(text)), [[1, 15], [-1015]])
                alone = self.start + codes("a ") + [byte]
                self.assertEqual(run([2] + listed(alone)), [[1, 17]])

    def test_bytes_at_a_texts_beginning(self):
        for byte in range(256):
            with self.subTest(byte=byte):
                self.assertEqual(run([2] + listed([byte]), [1] + listed([byte])), [[1, 0], [-1000]])

    def test_two_unlike_bytes_for_one_hole(self):
        for byte in range(256):
            text = codes("holes 6\nvalues a\nat ") + [byte] + codes(" is a")
            with self.subTest(byte=byte):
                self.assertEqual(run([2] + listed(text)), [[0]] if chr(byte) in "012345" else [[1, 20]])

    def test_other_digits_and_blanks(self):
        for byte in (9, 11, 12, 13, 133, 160, 178, 179, 185):
            with self.subTest(byte=byte):
                self.assertEqual(run([2] + listed(codes("holes ") + [byte])), [[1, 6]])
                self.assertEqual(run([2] + listed(codes("holes") + [byte] + codes("1"))), [[1, 0]])

    def test_numbers_that_are_no_bytes(self):
        for number in (-1, 256, -9223372036854775808, 9223372036854775807):
            for text in ([], codes("holes 1\nvalues a"), codes("fault"), self.start, 1999 * [97]):
                for place in (0, len(text) // 2, len(text)):
                    with self.subTest(number=number, place=place):
                        row = listed(text[:place] + [number] + text[place:])
                        self.assertEqual(run([1] + row, [2] + row), [[-1], [-1]])

    def test_the_least_and_the_greatest_byte_are_bytes(self):
        self.assertEqual(run([1, 1, 0], [1, 1, 255], [2, 1, 0], [2, 1, 255]), [[-1000], [-1000], [1, 0], [1, 0]])

    def test_a_text_of_2000_bytes(self):
        self.assertEqual(run([1] + listed(2000 * [97]), [2] + listed(self.start + 1985 * [32])), [[-1000], [1, 15]])
