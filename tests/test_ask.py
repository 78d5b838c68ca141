"""ask: each what, on rows of characters, blanks, signs and tags."""

import unittest

from support import SIGN_EDGES, asked, is_sign

CROSSING = "{+1}{+2}{-1}{-2}"


class Counts(unittest.TestCase):
    def assert_counts(self, text, pieces, characters, tags, words, units):
        with self.subTest(text=text):
            self.assertEqual(asked(text)[:5], [[pieces], [characters], [tags], [words], [units]])

    def test_the_empty_row(self):
        self.assertEqual(asked(""), [[0], [0], [0], [0], [0], [1], [1], [0], [0]])

    def test_a_row_with_all(self):
        self.assert_counts("Ab {+3}c\u00e9{-3}, {{x}{.12}\u20ac!", 15, 12, 3, 4, 11)

    def test_characters_words_and_blanks(self):
        self.assert_counts("a", 1, 1, 0, 1, 1)
        self.assert_counts("abc", 3, 3, 0, 1, 1)
        self.assert_counts("abc de", 6, 6, 0, 2, 2)
        self.assert_counts("  abc   de  ", 12, 12, 0, 2, 2)
        self.assert_counts(" ", 1, 1, 0, 0, 0)
        self.assert_counts("    ", 4, 4, 0, 0, 0)
        self.assert_counts("\u00e9\u20ac\U0001f600 7", 5, 5, 0, 2, 2)

    def test_signs(self):
        self.assert_counts("!", 1, 1, 0, 0, 1)
        self.assert_counts("...", 3, 3, 0, 0, 3)
        self.assert_counts("a.b", 3, 3, 0, 2, 3)
        self.assert_counts("(ab)", 4, 4, 0, 1, 3)
        self.assert_counts("{{", 1, 1, 0, 0, 1)
        self.assert_counts("a{{b}c", 5, 5, 0, 3, 5)

    def test_tags(self):
        self.assert_counts("{.1}", 1, 0, 1, 0, 1)
        self.assert_counts("{+1}{-1}{.2}", 3, 0, 3, 0, 3)
        self.assert_counts("ab{.1}cd", 5, 4, 1, 2, 3)
        self.assert_counts("{+1}ab{-1}", 4, 2, 2, 1, 3)
        self.assert_counts("ab {.1} cd", 7, 6, 1, 2, 3)
        self.assert_counts("ab{.1}!{.2}", 5, 3, 2, 1, 4)
        self.assert_counts("{.1}{.1}", 2, 0, 2, 0, 2)

    def test_only_20H_is_a_blank(self):
        self.assert_counts("a\u00a0b", 3, 3, 0, 1, 1)
        self.assert_counts("a\u2003b", 3, 3, 0, 1, 1)
        self.assert_counts("\u00a0", 1, 1, 0, 1, 1)

    def test_each_edge_of_the_signs(self):
        for code in SIGN_EDGES:
            character = "{{" if code == 0x7B else chr(code)
            if is_sign(code):
                self.assert_counts(f"a{character}b{character}", 4, 4, 0, 2, 4)
            else:
                self.assert_counts(f"a{character}b{character}", 4, 4, 0, 1, 1)

    def test_units_hang_on_no_number_of_a_tag(self):
        pattern = "a{+%d}b c{-%d}{.%d}{.%d}!{-%d}d"
        for numbers in [(1, 1, 2, 3, 4), (9, 9, 8, 7, 6), (999, 999, 10, 100, 1), (5, 5, 5, 5, 5), (1, 2, 3, 4, 5)]:
            self.assert_counts(pattern % numbers, 11, 6, 5, 4, 10)

    def test_a_tag_is_told_by_no_character_of_its_number(self):
        for number in [0x20, 0x21, 0x2B, 0x2D, 0x2E, 0x41, 0x7B, 0x7D, 0xA1, 0xD7, 0xF7]:
            for kind in "+-.":
                self.assert_counts(f"a{{{kind}{number}}}b", 3, 2, 1, 2, 3)


class Straight(unittest.TestCase):
    def assert_straight(self, text, lefts, rights):
        paired = 1 if lefts == 0 and rights == 0 else 0
        for written in [text, "a" + text + "b", text.replace("{", " x{{{")]:
            with self.subTest(text=written):
                self.assertEqual(asked(written)[5:], [[1], [paired], [lefts], [rights]])

    def assert_not_straight(self, text):
        for written in [text, "a" + text + "b", text.replace("{", " x{{{")]:
            with self.subTest(text=written):
                self.assertEqual(asked(written)[5:], [[0], [0], [0], [0]])

    def test_paired_rows(self):
        for text in ["", "{.1}", "{+1}{-1}", "{+1}{+2}{-2}{-1}", "{+2}{-2}{+1}{-1}", "{+1}{.2}{-1}{.3}"]:
            self.assert_straight(text, 0, 0)
        self.assert_straight("{+5}{+999}{-999}{+10}{+7}{-7}{-10}{-5}", 0, 0)

    def test_left_halves(self):
        self.assert_straight("{-1}", 1, 0)
        self.assert_straight("{-1}{-2}{-3}", 3, 0)
        self.assert_straight("{+1}{-1}{-2}", 1, 0)
        self.assert_straight("{-2}{+1}{-1}{.4}{-3}", 2, 0)

    def test_right_halves(self):
        self.assert_straight("{+1}", 0, 1)
        self.assert_straight("{+1}{+2}{+3}", 0, 3)
        self.assert_straight("{+1}{+2}{-2}", 0, 1)
        self.assert_straight("{+1}{.4}{+2}{-2}{+3}", 0, 2)

    def test_left_and_right_halves(self):
        self.assert_straight("{-1}{+2}", 1, 1)
        self.assert_straight("{-3}{-1}{+4}{+2}{+5}", 2, 3)
        self.assert_straight("{-3}{+6}{-6}{-1}{+4}{+7}{-7}{.8}", 2, 1)

    def test_crossing_pairs(self):
        self.assert_not_straight(CROSSING)
        self.assert_not_straight("{+3}" + CROSSING + "{-3}")
        self.assert_not_straight("{+1}{+2}{-1}")

    def test_a_close_where_another_number_is_on_top(self):
        self.assert_not_straight("{+1}{-2}")
        self.assert_not_straight("{+1}{-2}{-1}")
        self.assert_not_straight("{+1}{-2}{+2}{-1}")

    def test_a_number_twice_as_open(self):
        self.assert_not_straight("{+1}{+1}")
        self.assert_not_straight("{+1}{-1}{+1}")
        self.assert_not_straight("{+1}{-1}{+1}{-1}")
        self.assert_not_straight("{+1}{+2}{+1}")

    def test_a_number_twice_as_close(self):
        self.assert_not_straight("{-1}{-1}")
        self.assert_not_straight("{+1}{-1}{-1}")
        self.assert_not_straight("{-1}{-2}{-1}")

    def test_a_number_twice_as_alone(self):
        self.assert_not_straight("{.1}{.1}")
        self.assert_not_straight("{.1}{.2}{.1}")

    def test_alone_beside_open_or_close(self):
        for text in ["{.1}{+1}", "{+1}{.1}", "{.1}{-1}", "{-1}{.1}"]:
            self.assert_not_straight(text)
        for text in ["{.1}{+1}{-1}", "{+1}{.1}{-1}", "{+1}{-1}{.1}"]:
            self.assert_not_straight(text)

    def test_a_close_before_its_open(self):
        self.assert_not_straight("{-1}{+1}")
        self.assert_not_straight("{-1}{-2}{+3}{+1}")
        self.assert_not_straight("{-1}{+1}{-1}")

    def test_a_fault_of_order_late_in_the_row(self):
        self.assert_not_straight("{+1}{-1}{.2}{-3}{+4}{.2}")
        self.assert_not_straight("{-3}{-4}{+5}{-6}")

    def test_numbers_are_told_apart_whole(self):
        self.assert_straight("{+1}{-1}{+10}{-10}{+100}{-100}{.11}{.111}", 0, 0)
        self.assert_not_straight("{+1}{-11}")


if __name__ == "__main__":
    unittest.main()
