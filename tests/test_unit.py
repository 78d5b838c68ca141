"""unit: words, signs and tags, and A3 as far as units go."""

import itertools
import random
import unittest

from support import LARGEST, SIGN_EDGES, SOME_CHARACTERS
from support import answered, ask, form, is_sign, pieces_of, tag, unit, units_of

NUMBERS = [7, 300, 12, 999, 1, 45, 10, 2, 100, 998, 33, 3]


def word(text):
    return [0, 0, 0] + answered(text)[1:]


def sign(text):
    return [0, 1, 0] + answered(text)[1:]


def opening(place):
    return [0, 2, 0] + answered(str(place))[1:]


def closing(place):
    return [0, 2, 1] + answered(str(place))[1:]


def alone(place):
    return [0, 2, 2] + answered(str(place))[1:]


def is_tag(piece):
    return piece[0] == "{" and piece != "{{"


def units_by_definition(text):
    """The units' answers, put together from the pieces' texts."""
    pieces = pieces_of(text)
    numbers = list(dict.fromkeys(piece[2:-1] for piece in pieces if is_tag(piece)))
    letters = [
        "t" if is_tag(piece) else " " if piece == " " else "s" if is_sign(ord(piece[-1])) else "w"
        for piece in pieces
    ]
    units = []
    for letter, group in itertools.groupby(zip(letters, pieces), key=lambda pair: pair[0]):
        stretch = [piece for letter, piece in group]
        if letter == "w":
            units.append(word("".join(stretch)))
        if letter == "s":
            units += [sign(piece[-1]) for piece in stretch]
        if letter == "t":
            told = {"+": opening, "-": closing, ".": alone}
            units += [told[piece[1]](numbers.index(piece[2:-1]) + 1) for piece in stretch]
    return units


class UnitTest(unittest.TestCase):
    def assert_units(self, text, *expected):
        with self.subTest(text=text):
            self.assertEqual(units_of(text), list(expected))
            self.assertEqual(ask("units", text), [len(expected)])
            self.assertEqual(ask("words", text), [len([told for told in expected if told[1] == 0])])
            self.assertEqual(unit(len(expected), text), [-2])
            self.assertEqual(unit(len(expected) + 1, text), [-2])
            self.assertEqual(unit(LARGEST, text), [-2])


class WordsAndSigns(UnitTest):
    def test_rows_without_units(self):
        for text in ["", " ", "    "]:
            self.assert_units(text)

    def test_the_answer_number_by_number(self):
        self.assertEqual(unit(0, "ab c"), [0, 0, 0, 2, 0x61, 0x62])
        self.assertEqual(unit(1, "ab c"), [0, 0, 0, 1, 0x63])
        self.assertEqual(unit(1, "a!"), [0, 1, 0, 1, 0x21])
        self.assertEqual(unit(0, "{+5}"), [0, 2, 0, 1, 0x31])
        self.assertEqual(unit(0, "{-5}"), [0, 2, 1, 1, 0x31])
        self.assertEqual(unit(0, "{.5}"), [0, 2, 2, 1, 0x31])

    def test_words_between_blanks(self):
        self.assert_units("a", word("a"))
        self.assert_units("abc", word("abc"))
        self.assert_units("abc de", word("abc"), word("de"))
        self.assert_units("  abc   de  ", word("abc"), word("de"))

    def test_words_of_one_to_four_bytes(self):
        self.assert_units("\u00e9", word("\u00e9"))
        self.assert_units("\u20ac", word("\u20ac"))
        self.assert_units("\U0001f600", word("\U0001f600"))
        self.assert_units("a\u00e9\u20ac\U0001f600 7", word("a\u00e9\u20ac\U0001f600"), word("7"))
        self.assert_units("\u00a0\u2003", word("\u00a0\u2003"))

    def test_signs(self):
        self.assert_units("!", sign("!"))
        self.assert_units("...", sign("."), sign("."), sign("."))
        self.assert_units(". .", sign("."), sign("."))
        self.assert_units("(ab)", sign("("), word("ab"), sign(")"))
        self.assert_units("a.b", word("a"), sign("."), word("b"))
        self.assert_units(" , a ,", sign(","), word("a"), sign(","))

    def test_signs_of_one_to_three_bytes(self):
        self.assert_units("~\u00a1\u00d7\u2010\u3000", *[sign(c) for c in "~\u00a1\u00d7\u2010\u3000"])

    def test_a_brace_is_a_sign_of_one_byte(self):
        self.assert_units("{{", sign("{"))
        self.assert_units("{{{{", sign("{"), sign("{"))
        self.assert_units("a{{b}c", word("a"), sign("{"), word("b"), sign("}"), word("c"))
        self.assert_units("{{+1}", sign("{"), sign("+"), word("1"), sign("}"))

    def test_each_edge_of_the_signs(self):
        for code in SIGN_EDGES:
            told = chr(code)
            text = "a" + ("{{" if code == 0x7B else told) + "b"
            if is_sign(code):
                self.assert_units(text, word("a"), sign(told), word("b"))
            else:
                self.assert_units(text, word("a" + told + "b"))


class Tags(UnitTest):
    def test_each_kind(self):
        self.assert_units("{+5}", opening(1))
        self.assert_units("{-50}", closing(1))
        self.assert_units("{.500}", alone(1))
        self.assert_units("{+5}{-50}{.500}", opening(1), closing(2), alone(3))

    def test_between_words_signs_and_blanks(self):
        self.assert_units("ab{.9}cd", word("ab"), alone(1), word("cd"))
        self.assert_units("ab {.9} cd", word("ab"), alone(1), word("cd"))
        self.assert_units("{+9}ab{-9}", opening(1), word("ab"), closing(1))
        self.assert_units(".{+9}.{-9}.", sign("."), opening(1), sign("."), closing(1), sign("."))
        self.assert_units(" {.3} ", alone(1))
        self.assert_units("{{{.3}{{", sign("{"), alone(1), sign("{"))

    def test_a_number_that_stands_again_keeps_its_place(self):
        self.assert_units("{+7}{+4}{-4}{-7}", opening(1), opening(2), closing(2), closing(1))
        self.assert_units("{.7}{.3}{.7}{+7}{-3}", alone(1), alone(2), alone(1), opening(1), closing(2))
        self.assert_units("{.2}{.1}{.2}", alone(1), alone(2), alone(1))

    def test_rows_that_are_not_straight(self):
        self.assert_units("{+8}{+9}{-8}{-9}", opening(1), opening(2), closing(1), closing(2))
        self.assert_units("{-8}a{+8}", closing(1), word("a"), opening(1))

    def test_places_of_one_two_and_three_figures(self):
        text = "".join(tag(".", number) for number in range(999, 0, -1)) + "{+1}{-990}{.991}{-900}{+899}"
        for place in [1, 2, 9, 10, 11, 99, 100, 101, 998, 999]:
            self.assertEqual(unit(place - 1, text), alone(place))
        again = [opening(999), closing(10), alone(9), closing(100), opening(101)]
        self.assertEqual([unit(k, text) for k in range(999, 1004)], again)
        self.assertEqual(unit(1004, text), [-2])

    def test_a_tag_is_told_by_no_character_of_its_number(self):
        for number in [0x20, 0x21, 0x2B, 0x41, 0x7B, 0x7D, 0xA1, 0xD7, 0xF7]:
            self.assert_units(f"a{{+{number}}}b", word("a"), opening(1), word("b"))


class ByDefinition(UnitTest):
    def test_drawn_rows(self):
        chosen = random.Random(19)
        for turn in range(600):
            texts = chosen.choices(SOME_CHARACTERS, k=chosen.randrange(12))
            texts += [tag(chosen.choice("+-."), chosen.choice(NUMBERS)) for step in range(chosen.randrange(8))]
            chosen.shuffle(texts)
            text = "".join(texts)
            self.assert_units(text, *units_by_definition(text))

    def test_units_hang_on_no_number_of_a_tag(self):
        chosen = random.Random(23)
        for turn in range(200):
            places = [chosen.randrange(12) for step in range(chosen.randrange(1, 15))]
            kinds = [chosen.choice("+-.") for place in places]
            between = [chosen.choice(SOME_CHARACTERS) for place in places]
            texts = []
            for numbers in [NUMBERS, NUMBERS[::-1], chosen.sample(range(1, 1000), 12)]:
                stretches = [tag(k, numbers[p]) + b for k, p, b in zip(kinds, places, between)]
                texts.append("".join(stretches))
            units = [units_of(text) for text in texts]
            self.assertEqual(units[0], units[1])
            self.assertEqual(units[0], units[2])
            self.assertEqual(units[0], units_of(bytes(form(texts[0])[2:])))


if __name__ == "__main__":
    unittest.main()
