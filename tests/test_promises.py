"""A2 and A3 over the whole program: drawn documents, taken apart, translated and put together again."""

import random
import re
import unittest

from support import answered, ask, asked, count, cut, doc, drawn_document, drawn_target, fits
from support import form, lines_of, row, tag, tags, tags_in, units_of


def text_in(answer):
    """The text that an answer tells behind its 0 and how many bytes there are."""
    return bytes(answer[2:]).decode("utf-8")


def with_other_numbers(chosen, text):
    """The row with each number of a tag changed into another, one to one."""
    numbers = sorted({piece[2:-1] for piece in tags_in(text)})
    others = dict(zip(numbers, chosen.sample(range(1, 1000), len(numbers))))
    return re.sub(
        r"\{\{|\{([-+.])([0-9]+)\}",
        lambda found: tag(found[1], others[found[2]]) if found[1] else found[0],
        text,
    )


class Translated(unittest.TestCase):
    def translate(self, chosen, paragraph):
        """Each segment of the paragraph, wherever it is cut, replaced by a target that fits it."""
        pieces = row(paragraph)[0]
        places = sorted(chosen.choices(range(pieces + 1), k=chosen.randrange(5)))
        whole = ""
        for start, to in zip([0] + places, places + [pieces]):
            segment = text_in(cut(start, to, paragraph))
            self.assertEqual(ask("straight", segment), [1])
            target = drawn_target(chosen, segment)
            self.assertEqual(fits(segment, target), [0])
            whole += target
        return whole

    def test_targets_that_fit_keep_each_paragraph_paired_with_its_tags(self):
        chosen = random.Random(53)
        for turn in range(150):
            text = drawn_document(chosen)
            translated = ""
            for is_paragraph, behind in lines_of(text):
                behind = behind.decode("utf-8")
                if not is_paragraph:
                    translated += "|" + behind + "\n"
                    continue
                other = self.translate(chosen, behind)
                self.assertEqual(ask("paired", other), [1])
                self.assertEqual(sorted(tags_in(other)), sorted(tags_in(behind)))
                translated += ">" + other + "\n"
            self.assertEqual(doc(translated), doc(text))
            before, after = count(text), count(translated)
            self.assertEqual([after[1], after[2], after[5]], [before[1], before[2], before[5]])

    def test_a_target_with_a_tag_less_or_more_does_not_fit(self):
        chosen = random.Random(59)
        for turn in range(150):
            for is_paragraph, behind in lines_of(drawn_document(chosen)):
                drawn = tags_in(behind.decode("utf-8")) if is_paragraph else []
                for place in range(len(drawn)):
                    less = "".join(drawn[:place] + drawn[place + 1:])
                    self.assertIn(fits(behind, less), [[1], [2]])
                    self.assertIn(fits(less, behind), [[1], [2]])


class NoNumberOfATag(unittest.TestCase):
    def assert_same_of(self, text, other):
        self.assertEqual(form(text), form(other))
        self.assertEqual(units_of(text), units_of(other))
        self.assertEqual(asked(text), asked(other))

    def test_paragraphs_that_differ_in_their_numbers_alone(self):
        chosen = random.Random(61)
        for turn in range(100):
            for is_paragraph, behind in lines_of(drawn_document(chosen)):
                if is_paragraph:
                    text = behind.decode("utf-8")
                    self.assert_same_of(text, with_other_numbers(chosen, text))
                    self.assert_same_of(text, text_in(form(text)))

    def test_stretches_and_rows_that_are_not_straight(self):
        chosen = random.Random(67)
        for turn in range(200):
            parts = ["a", " ", ".", "{{"] + [tag(kind, number) for kind in "+-." for number in (3, 20, 100)]
            text = "".join(chosen.choices(parts, k=chosen.randrange(1, 15)))
            other = with_other_numbers(chosen, text)
            self.assert_same_of(text, other)
            pieces = row(text)[0]
            start = chosen.randrange(pieces + 1)
            to = chosen.randrange(start, pieces + 1)
            self.assert_same_of(text_in(cut(start, to, text)), text_in(cut(start, to, other)))
            self.assertEqual(form(text_in(tags(text))), form(text_in(tags(other))))
            self.assertEqual(tags(text_in(form(text))), answered(text_in(form(text_in(tags(text))))))


if __name__ == "__main__":
    unittest.main()
