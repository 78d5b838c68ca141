"""fits: whether a target fits a segment, and A2 as far as fits goes."""

import itertools
import random
import unittest

from support import answered, ask, cut, drawn_paired_row, drawn_target, fits, halves_of, pieces_of, tag, tags

FITTING = [0]
NOT_STRAIGHT = [1]
OTHER_TAGS = [2]
OTHER_HALVES = [3]


def written(pairs):
    return "".join(tag(kind, number) for kind, number in pairs)


def judged_by_definition(segment, target):
    if halves_of(target) is None:
        return NOT_STRAIGHT
    if sorted(segment) != sorted(target):
        return OTHER_TAGS
    return FITTING if halves_of(segment) == halves_of(target) else OTHER_HALVES


class Fits(unittest.TestCase):
    def assert_judged(self, expected, segment, *targets):
        """Judged so whatever characters stand between the tags."""
        for target in targets:
            with self.subTest(segment=segment, target=target):
                self.assertEqual(fits(segment, target), expected)
                self.assertEqual(fits("\u00e9 " + segment + "{{", target), expected)
                self.assertEqual(fits(segment, "\u20ac." + target + "}x"), expected)
                spread = [" {{\u00e9".join(pieces_of(text)) for text in (segment, target)]
                self.assertEqual(fits(spread[0], spread[1]), expected)

    def test_no_tags_at_all(self):
        self.assert_judged(FITTING, "", "", "a", "a b{{")
        self.assert_judged(FITTING, "one two", "", "three", "{{+1}")

    def test_equal_rows(self):
        for text in ["{.1}", "{+1}{-1}", "{-7}", "{+7}", "{-2}{-1}a{+3}{+4}", "{-5}{+6}{.7}{-6}{+8}"]:
            self.assert_judged(FITTING, text, text)

    def test_rows_that_differ_in_characters_alone(self):
        self.assert_judged(FITTING, "Read {+1}this{-1}, {.2}please", "{+1}Das{-1}{.2} bitte lesen", "{+1}{-1}{.2}")

    def test_tags_in_another_order_that_still_fit(self):
        self.assert_judged(FITTING, "{+1}{-1}{.2}", "{.2}{+1}{-1}", "{+1}{.2}{-1}")
        self.assert_judged(FITTING, "{+1}{-1}{+2}{-2}", "{+2}{-2}{+1}{-1}", "{+1}{+2}{-2}{-1}", "{+2}{+1}{-1}{-2}")
        self.assert_judged(FITTING, "{-1}{+2}{.3}", "{-1}{.3}{+2}", "{.3}{-1}{+2}")
        self.assert_judged(FITTING, "{-1}{+3}{-3}{+2}", "{+3}{-3}{-1}{+2}", "{-1}{+2}{+3}{-3}")

    def test_a_target_that_is_not_straight(self):
        self.assert_judged(NOT_STRAIGHT, "{+1}{+2}{-2}{-1}", "{+1}{+2}{-1}{-2}", "{-1}{+1}{+2}{-2}")
        self.assert_judged(NOT_STRAIGHT, "{-1}{+2}", "{+2}{-1}")
        self.assert_judged(NOT_STRAIGHT, "{+1}{+2}{-1}{-2}", "{+1}{+2}{-1}{-2}")
        self.assert_judged(NOT_STRAIGHT, "{.1}{.1}", "{.1}{.1}")

    def test_a_target_that_is_not_straight_and_has_other_tags(self):
        self.assert_judged(NOT_STRAIGHT, "", "{.1}{.1}", "{-1}{+1}", "{+1}{-2}")
        self.assert_judged(NOT_STRAIGHT, "{.1}", "{.1}{.1}", "{+1}{.1}", "{.2}{.2}")
        self.assert_judged(NOT_STRAIGHT, "{-1}{+1}", "{.1}{.1}", "{+2}{-1}")

    def test_a_tag_missing(self):
        self.assert_judged(OTHER_TAGS, "{.1}", "", "a")
        self.assert_judged(OTHER_TAGS, "{+1}{-1}", "{+1}", "{-1}", "")
        self.assert_judged(OTHER_TAGS, "{.1}{.2}{.3}", "{.1}{.2}", "{.1}{.3}", "{.2}{.3}")

    def test_a_tag_too_many(self):
        self.assert_judged(OTHER_TAGS, "", "{.1}", "{+1}", "{-1}", "{+1}{-1}")
        self.assert_judged(OTHER_TAGS, "{+1}", "{+1}{-1}", "{+1}{.2}")

    def test_a_tag_of_another_kind(self):
        for first, second in itertools.permutations("+-.", 2):
            self.assert_judged(OTHER_TAGS, tag(first, 1), tag(second, 1))

    def test_a_tag_of_another_number(self):
        for kind in "+-.":
            self.assert_judged(OTHER_TAGS, tag(kind, 1), tag(kind, 2), tag(kind, 10), tag(kind, 11), tag(kind, 100))
        self.assert_judged(OTHER_TAGS, "{+1}{-1}", "{+2}{-2}")
        self.assert_judged(OTHER_TAGS, "{-1}{+2}", "{-2}{+1}")

    def test_each_tag_as_often(self):
        self.assert_judged(OTHER_TAGS, "{.1}{.1}", "{.1}")
        self.assert_judged(OTHER_TAGS, "{+1}{-1}{+1}{-1}", "{+1}{-1}")
        self.assert_judged(OTHER_TAGS, "{.1}{.1}{.2}", "{.1}{.2}")

    def test_left_halves_in_another_order(self):
        self.assert_judged(OTHER_HALVES, "{-1}{-2}", "{-2}{-1}")
        self.assert_judged(OTHER_HALVES, "{-1}{-2}{-3}{+4}", "{-1}{-3}{-2}{+4}", "{-3}{-2}{-1}{+4}")

    def test_right_halves_in_another_order(self):
        self.assert_judged(OTHER_HALVES, "{+1}{+2}", "{+2}{+1}")
        self.assert_judged(OTHER_HALVES, "{-4}{+1}{+2}{+3}", "{-4}{+1}{+3}{+2}", "{-4}{+2}{+1}{+3}")

    def test_a_segment_that_is_not_straight_with_the_target_s_tags(self):
        self.assert_judged(OTHER_HALVES, "{+1}{+2}{-1}{-2}", "{+1}{-1}{+2}{-2}", "{+1}{+2}{-2}{-1}")
        self.assert_judged(OTHER_HALVES, "{-1}{+1}", "{+1}{-1}")
        self.assert_judged(OTHER_HALVES, "{+2}{-1}", "{-1}{+2}")

    def test_a_segment_that_is_not_straight_with_other_tags(self):
        self.assert_judged(OTHER_TAGS, "{-1}{+1}", "", "{+1}", "{+2}{-2}", "{.1}")
        self.assert_judged(OTHER_TAGS, "{+1}{+2}{-1}{-2}", "{+1}{-1}", "{+1}{-1}{+2}{-2}{.3}")
        self.assert_judged(OTHER_TAGS, "{.1}{-1}", "{.1}", "{-1}")

    def test_every_two_short_rows_of_tags(self):
        every = [(kind, number) for kind in "+-." for number in (1, 2)]
        drawn = [pairs for length in range(4) for pairs in itertools.product(every, repeat=length)]
        for segment in drawn:
            for target in drawn:
                expected = judged_by_definition(segment, target)
                if fits(written(segment), written(target)) != expected:
                    self.fail(f"{written(segment)} {written(target)}: not {expected}")

    def test_drawn_orders_of_the_same_tags(self):
        chosen = random.Random(29)
        pairs = [("+", 1), ("-", 1), ("+", 2), ("-", 2), ("-", 3), ("-", 4), ("+", 5), ("+", 6), (".", 7)]
        answers = []
        for turn in range(20000):
            some = chosen.sample(pairs, chosen.randrange(2, 7))
            other = chosen.sample(some, len(some))
            expected = judged_by_definition(tuple(some), tuple(other))
            answers.append(expected)
            self.assertEqual(fits(written(some), written(other)), expected, (some, other))
        for answer in [FITTING, NOT_STRAIGHT, OTHER_HALVES]:
            self.assertGreater(answers.count(answer), 500)


class TargetsOfSegments(unittest.TestCase):
    def test_the_paragraph_stays_paired_with_its_tags(self):
        chosen = random.Random(31)
        changed = 0
        for turn in range(300):
            pieces = drawn_paired_row(chosen, chosen.randrange(2, 40))
            paragraph = "".join(pieces)
            places = sorted(chosen.choices(range(len(pieces) + 1), k=chosen.randrange(6)))
            whole = ""
            for start, to in zip([0] + places, places + [len(pieces)]):
                segment = "".join(pieces[start:to])
                self.assertEqual(cut(start, to, paragraph), answered(segment))
                target = drawn_target(chosen, segment)
                self.assertEqual(fits(segment, target), FITTING)
                whole += target
            self.assertEqual(ask("paired", whole), [1], (paragraph, whole))
            self.assertEqual(fits(paragraph, whole), FITTING)
            told = [sorted(pieces_of(bytes(tags(text)[2:]).decode("utf-8"))) for text in (paragraph, whole)]
            self.assertEqual(told[0], told[1])
            changed += tags(paragraph) != tags(whole)
        self.assertGreater(changed, 50)


if __name__ == "__main__":
    unittest.main()
