"""cut: stretches of rows, and A2 as far as stretches of paired rows go."""

import random
import unittest

from support import LARGEST, answered, ask, cut, drawn_paired_row, pieces_of, row, tags

MIXED = "a{+30}\u00e9 {{\u20ac{.7}}{-30}\U0001f600{{"


class Cut(unittest.TestCase):
    def assert_cuts(self, text):
        """Every stretch is just its pieces' texts, and one past the end is none."""
        pieces = pieces_of(text)
        self.assertEqual(row(text), [len(pieces)])
        for to in range(len(pieces) + 1):
            for start in range(to + 1):
                with self.subTest(text=text, start=start, to=to):
                    self.assertEqual(cut(start, to, text), answered("".join(pieces[start:to])))
        for start in range(len(pieces) + 2):
            self.assertEqual(cut(start, len(pieces) + 1, text), [-2])

    def test_the_empty_row(self):
        self.assertEqual(cut(0, 0, ""), [0, 0])
        self.assertEqual(cut(0, 1, ""), [-2])
        self.assertEqual(cut(1, 1, ""), [-2])

    def test_how_many_bytes_stand_ahead_of_the_bytes(self):
        self.assertEqual(cut(1, 3, "ab{.12}c"), [0, 6, 0x62, 0x7B, 0x2E, 0x31, 0x32, 0x7D])
        self.assertEqual(cut(0, 1, "{{a"), [0, 2, 0x7B, 0x7B])

    def test_the_whole_row(self):
        for text in ["a", "abc", MIXED, "{.999}" * 4096, "\U0001f600" * 4096]:
            self.assertEqual(cut(0, len(pieces_of(text)), text), answered(text))

    def test_empty_stretches(self):
        for place in [0, 1, 4, len(pieces_of(MIXED))]:
            self.assertEqual(cut(place, place, MIXED), [0, 0])

    def test_one_piece(self):
        for place, piece in enumerate(pieces_of(MIXED)):
            self.assertEqual(cut(place, place + 1, MIXED), answered(piece))

    def test_stretches_of_characters(self):
        self.assert_cuts("abc")
        self.assert_cuts("a\u00e9\u20ac\U0001f600 ")
        self.assert_cuts("{{}{{{{x")

    def test_stretches_of_tags_with_their_numbers_as_they_stand(self):
        self.assert_cuts("{+9}{.800}{-9}{+70}{-70}")
        self.assert_cuts("{.3}{.2}{.1}{.3}")
        self.assertEqual(cut(1, 3, "{.7}{.6}{.5}"), answered("{.6}{.5}"))

    def test_stretches_of_all_kinds_of_pieces(self):
        self.assert_cuts(MIXED)
        self.assert_cuts("{{{+1}{{{-1}{{+1}")

    def test_rows_that_are_not_straight(self):
        self.assert_cuts("{+1}a{+2}b{-1}c{-2}")
        self.assert_cuts("{.5}{.5}{-5}{+5}")

    def test_to_above_the_number_of_pieces(self):
        self.assertEqual(cut(0, 3, "abc"), answered("abc"))
        for start, to in [(0, 4), (3, 4), (4, 4), (0, 5), (0, LARGEST), (LARGEST, LARGEST)]:
            self.assertEqual(cut(start, to, "abc"), [-2])

    def test_pieces_are_counted_and_not_bytes(self):
        self.assertEqual(cut(0, 2, "\u20ac{.1}"), answered("\u20ac{.1}"))
        self.assertEqual(cut(0, 3, "\u20ac{.1}"), [-2])

    def test_start_above_to(self):
        for start, to in [(1, 0), (3, 2), (4, 3), (5, 4), (LARGEST, 0), (LARGEST, LARGEST - 1)]:
            self.assertEqual(cut(start, to, "abc"), [-1])


class StretchesOfPairedRows(unittest.TestCase):
    def assert_every_stretch_straight(self, text, number):
        for to in range(number + 1):
            for start in range(to + 1):
                answer = cut(start, to, text)
                self.assertEqual(answer[:2], [0, len(answer) - 2])
                stretch = bytes(answer[2:])
                self.assertEqual(row(stretch), [to - start])
                self.assertEqual(ask("straight", stretch), [1], (text, start, to))

    def test_chosen_rows(self):
        for text in ["", "{.1}", "{+1}{-1}", "{+1}{+2}{-2}{-1}", "{+1}a{-1}{+2}{+3}b{-3}{.4}{-2}"]:
            self.assertEqual(ask("paired", text), [1])
            self.assert_every_stretch_straight(text, len(pieces_of(text)))

    def test_drawn_rows(self):
        chosen = random.Random(13)
        for turn in range(60):
            pieces = drawn_paired_row(chosen, chosen.randrange(2, 14))
            text = "".join(pieces)
            self.assertEqual(ask("paired", text), [1])
            self.assert_every_stretch_straight(text, len(pieces))

    def test_stretches_put_together_are_the_row(self):
        chosen = random.Random(17)
        for turn in range(100):
            pieces = drawn_paired_row(chosen, 30)
            text = "".join(pieces)
            places = sorted(chosen.choices(range(len(pieces) + 1), k=4))
            whole = []
            for start, to in zip([0] + places, places + [len(pieces)]):
                whole += cut(start, to, text)[2:]
            self.assertEqual(bytes(whole), text.encode("utf-8"))
            self.assertEqual(tags(bytes(whole)), tags(text))


if __name__ == "__main__":
    unittest.main()
