"""form and tags: what they tell of rows, and A3 as far as forms go."""

import itertools
import random
import re
import unittest

from support import answered, ask, form, is_character, pieces_of, row, tag, tags, tags_in

CHARACTERS = "a \u00e9\u00a0\u20ac\uffe6\U0001f600\U0010fffd}~{{{{"
TWELVE = [7, 300, 12, 999, 1, 45, 10, 2, 100, 998, 33, 3]


def alone(numbers):
    return "".join(tag(".", number) for number in numbers)


def form_by_definition(text):
    """The text with its numbers renamed, each by its place among their first stands."""
    numbers = list(dict.fromkeys(re.findall("[0-9]+", "".join(tags_in(text)))))
    renamed = [
        piece[:2] + str(numbers.index(piece[2:-1]) + 1) + "}" if piece[0] == "{" and piece != "{{" else piece
        for piece in pieces_of(text)
    ]
    return "".join(renamed)


class Form(unittest.TestCase):
    def assert_form(self, text, expected):
        with self.subTest(text=text):
            self.assertEqual(form(text), answered(expected))
            self.assertEqual(form(expected), answered(expected), "the form of a form is itself")
            self.assertEqual(row(expected), row(text))

    def test_the_empty_row(self):
        self.assertEqual(form(""), [0, 0])
        self.assert_form("", "")

    def test_how_many_bytes_stand_ahead_of_the_bytes(self):
        self.assertEqual(form("a"), [0, 1, 0x61])
        self.assertEqual(form("{{"), [0, 2, 0x7B, 0x7B])
        self.assertEqual(form("\u20ac"), [0, 3, 0xE2, 0x82, 0xAC])
        self.assertEqual(form("{.77}a"), [0, 5, 0x7B, 0x2E, 0x31, 0x7D, 0x61])

    def test_characters_come_out_as_they_went_in(self):
        self.assert_form(CHARACTERS, CHARACTERS)
        for piece in pieces_of(CHARACTERS):
            self.assert_form(piece, piece)
            self.assert_form(piece + "{.5}" + piece, piece + "{.1}" + piece)

    def test_the_edges_of_one_to_four_bytes(self):
        for code in [0x20, 0x7E, 0xA0, 0xBF, 0xC0, 0x7FF, 0x800, 0xFFF, 0x1000, 0xD7FF, 0xE000, 0xFFFD]:
            self.assert_form(chr(code), chr(code))
        for code in [0x10000, 0x1003F, 0x10040, 0x3FFFD, 0x40000, 0xFFFFD, 0x100000, 0x10FFFD]:
            self.assert_form(chr(code), chr(code))

    def test_every_character(self):
        pieces = ["{{" if code == 0x7B else chr(code) for code in range(0x110000) if is_character(code)]
        for first in range(0, len(pieces), 4096):
            text = "".join(pieces[first:first + 4096])
            if form(text) != answered(text):
                self.fail(f"the 4096 characters from {pieces[first]!r}")

    def test_digits_and_signs_that_are_characters_stay(self):
        self.assert_form("{{+7}{{-7}7{.7}+7}", "{{+7}{{-7}7{.1}+7}")

    def test_tags_of_each_kind(self):
        self.assert_form("{+5}", "{+1}")
        self.assert_form("{-50}", "{-1}")
        self.assert_form("{.500}", "{.1}")
        self.assert_form("a{-9}b{.8}c{+7}d", "a{-1}b{.2}c{+3}d")
        self.assert_form("{+1}{-1}", "{+1}{-1}")

    def test_a_number_that_stands_again_keeps_its_new_number(self):
        self.assert_form("{+7}{-7}", "{+1}{-1}")
        self.assert_form("{+7}{+4}{-4}{-7}", "{+1}{+2}{-2}{-1}")
        self.assert_form("{+7}{.3}{-7}{.9}", "{+1}{.2}{-1}{.3}")
        self.assert_form("{.7}{+7}{-7}{.6}{.7}", "{.1}{+1}{-1}{.2}{.1}")

    def test_a_number_is_not_renamed_by_what_another_becomes(self):
        self.assert_form("{.2}{.1}", "{.1}{.2}")
        self.assert_form("{.2}{.1}{.2}{.1}", "{.1}{.2}{.1}{.2}")
        self.assert_form("{.3}{.1}{.2}", "{.1}{.2}{.3}")

    def test_numbers_in_falling_order(self):
        self.assert_form(alone([999, 500, 100, 99, 10, 9, 1]), alone(range(1, 8)))
        self.assert_form(alone(range(999, 0, -1)), alone(range(1, 1000)))

    def test_new_numbers_of_one_two_and_three_figures(self):
        for number in [9, 10, 11, 99, 100, 101, 999]:
            self.assert_form(alone(range(1000 - number, 1000)), alone(range(1, number + 1)))
        back = list(range(1, 1000))
        self.assert_form(alone(back[::-1] + back), alone(back + back[::-1]))

    def test_shorter_than_as_long_as_and_longer_than_the_text(self):
        self.assert_form("{.999}", "{.1}")
        self.assert_form(alone([2, 1]), alone([1, 2]))
        first_nine = [10, 2, 3, 4, 5, 6, 7, 8, 9]
        self.assert_form(alone(first_nine + [1]), alone(range(1, 11)))
        longer = alone(first_nine + [1, 1, 1])
        self.assert_form(longer, alone([*range(1, 11), 10, 10]))
        self.assertEqual(form(longer)[1], len(longer) + 2)

    def test_a_form_that_is_much_longer_than_its_text(self):
        first = list(range(901, 1000))
        text = alone(first) + "{+1}" * 3000
        self.assert_form(text, alone(range(1, 100)) + "{+100}" * 3000)

    def test_rows_that_are_not_straight(self):
        for text in ["{+8}{+9}{-8}{-9}", "{.8}{.8}", "{-8}{+8}", "{+8}{-9}", "{+8}{+8}", "{.8}{-8}"]:
            self.assertEqual(ask("straight", text), [0])
            self.assert_form(text, text.replace("8", "1").replace("9", "2"))

    def test_halves(self):
        self.assert_form("{-20}x{+30}", "{-1}x{+2}")

    def test_a_row_of_the_most_pieces(self):
        self.assert_form("{.999}" * 4096, "{.1}" * 4096)
        self.assert_form("\U0001f600" * 4096, "\U0001f600" * 4096)

    def test_rows_that_differ_in_the_numbers_alone_have_one_form(self):
        chosen = random.Random(3)
        for turn in range(300):
            length = chosen.randrange(1, 40)
            places = [chosen.randrange(12) for place in range(length)]
            kinds = [chosen.choice("+-.") for place in range(length)]
            texts = []
            for numbers in [TWELVE, TWELVE[::-1], chosen.sample(range(1, 1000), 12)]:
                texts.append("\u00e9".join(tag(kind, numbers[place]) for kind, place in zip(kinds, places)))
            self.assertEqual(form(texts[0]), form(texts[1]))
            self.assertEqual(form(texts[0]), form(texts[2]))

    def test_rows_that_differ_in_more_have_other_forms(self):
        self.assertNotEqual(form("{+1}{+2}"), form("{+1}{+1}"))
        self.assertNotEqual(form("{+1}"), form("{-1}"))
        self.assertNotEqual(form("a{.1}"), form("{.1}a"))

    def test_every_short_row_of_tags(self):
        every = [(kind, number) for kind in "+-." for number in (1, 2, 30)]
        for length in range(4):
            for drawn in itertools.product(every, repeat=length):
                text = "".join(tag(kind, number) for kind, number in drawn)
                self.assertEqual(form(text), answered(form_by_definition(text)), text)


class Tags(unittest.TestCase):
    def assert_tags(self, text, expected):
        with self.subTest(text=text):
            self.assertEqual(tags(text), answered(expected))
            self.assertEqual(tags(expected), answered(expected))
            self.assertEqual(row(expected), ask("tags", text))

    def test_no_tag(self):
        self.assertEqual(tags(""), [0, 0])
        self.assertEqual(tags("abc"), [0, 0])
        self.assert_tags(CHARACTERS, "")
        self.assert_tags("a" * 4096, "")

    def test_a_doubled_brace_is_no_tag(self):
        self.assert_tags("{{", "")
        self.assert_tags("{{+1}", "")
        self.assert_tags("{{{+1}{{{{-1}", "{+1}")

    def test_how_many_bytes_stand_ahead_of_the_bytes(self):
        self.assertEqual(tags("a{+12}b"), [0, 5, 0x7B, 0x2B, 0x31, 0x32, 0x7D])

    def test_only_tags(self):
        for text in ["{+1}", "{-20}", "{.300}", "{+7}{.3}{-7}", alone(range(1, 1000)), "{-999}" * 4096]:
            self.assert_tags(text, text)

    def test_tags_between_characters(self):
        self.assert_tags("a{+5}\u00e9 {.2}\u20ac{-5}.\U0001f600", "{+5}{.2}{-5}")
        self.assert_tags(" {.9} ", "{.9}")
        self.assert_tags("{-3}ab", "{-3}")
        self.assert_tags("ab{+3}", "{+3}")

    def test_numbers_as_they_stand_in_their_order(self):
        self.assert_tags("x".join(tag(".", number) for number in TWELVE), alone(TWELVE))
        self.assert_tags("a{.999}b{.1}c{.50}", "{.999}{.1}{.50}")

    def test_tags_that_stand_again_and_rows_that_are_not_straight(self):
        self.assert_tags("a{.4}b{.4}{+4}c{-4}{.4}", "{.4}{.4}{+4}{-4}{.4}")
        self.assert_tags("{+8}a{+9}b{-8}c{-9}", "{+8}{+9}{-8}{-9}")


class ByDefinition(unittest.TestCase):
    def test_drawn_rows(self):
        chosen = random.Random(5)
        parts = ["a", "bc", " ", "1", "+", "}", "{{", "{{+1}", "\u00e9", "\u20ac", "\U0001f600"]
        for turn in range(1500):
            texts = chosen.choices(parts, k=chosen.randrange(10))
            numbers = chosen.choices(TWELVE, k=chosen.randrange(25))
            texts += [tag(chosen.choice("+-."), number) for number in numbers]
            chosen.shuffle(texts)
            text = "".join(texts)
            self.assertEqual(form(text), answered(form_by_definition(text)), text)
            self.assertEqual(tags(text), answered("".join(tags_in(text))), text)


if __name__ == "__main__":
    unittest.main()
