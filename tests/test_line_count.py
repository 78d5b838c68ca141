"""line and count: what they tell of documents."""

import random
import unittest

from support import LARGEST
from support import answered, ask, count, doc, drawn_document, line, lines_of

MIXED = "|a {+1\n>b {{{+1}\u20ac{-1}\n|\n>\n>{.7}, c d\n|\U0001f600{\n"


def raw(text):
    return [0, 0] + answered(text)[1:]


def paragraph(text):
    return [0, 1] + answered(text)[1:]


class Line(unittest.TestCase):
    def assert_lines(self, text, *expected):
        with self.subTest(text=text[:60]):
            self.assertEqual(doc(text), [len(expected)])
            self.assertEqual([line(k, text) for k in range(len(expected))], list(expected))
            for k in [len(expected), len(expected) + 1, LARGEST]:
                self.assertEqual(line(k, text), [-2])

    def test_the_empty_document(self):
        self.assert_lines("")
        for k in [0, 1, 16384, LARGEST]:
            self.assertEqual(line(k, ""), [-2])

    def test_the_answer_number_by_number(self):
        self.assertEqual(line(0, "|ab\n"), [0, 0, 2, 0x61, 0x62])
        self.assertEqual(line(0, ">ab\n"), [0, 1, 2, 0x61, 0x62])
        self.assertEqual(line(1, "|\n>{{\n"), [0, 1, 2, 0x7B, 0x7B])

    def test_empty_lines(self):
        self.assert_lines("|\n", raw(""))
        self.assert_lines(">\n", paragraph(""))
        self.assert_lines("|\n>\n|\n", raw(""), paragraph(""), raw(""))

    def test_the_first_a_middle_and_the_last_line(self):
        expected = [raw("a {+1"), paragraph("b {{{+1}\u20ac{-1}"), raw(""), paragraph(""), paragraph("{.7}, c d")]
        self.assert_lines(MIXED, *expected, raw("\U0001f600{"))

    def test_bytes_as_they_stand(self):
        self.assert_lines(">{{\n", paragraph("{{"))
        self.assert_lines("|{{\n|{\n", raw("{{"), raw("{"))
        self.assert_lines(">{+999}a{-999}\n>{.50}{.7}\n", paragraph("{+999}a{-999}"), paragraph("{.50}{.7}"))
        self.assert_lines("||>\n>>|\n", raw("|>"), paragraph(">|"))

    def test_large_lines(self):
        self.assert_lines("|" + "\U0001f600" * 4096 + "\n>" + "{{" * 4096 + "\n", raw("\U0001f600" * 4096),
                          paragraph("{{" * 4096))

    def test_as_many_lines_as_may_be(self):
        text = "|\n" * 16383 + ">z\n"
        self.assertEqual(line(0, text), raw(""))
        self.assertEqual(line(16382, text), raw(""))
        self.assertEqual(line(16383, text), paragraph("z"))
        self.assertEqual(line(16384, text), [-2])

    def test_the_lines_put_together_are_the_text(self):
        chosen = random.Random(37)
        for turn in range(200):
            text = drawn_document(chosen)
            self.assert_lines(text, *[line(k, text) for k in range(text.count("\n"))])
            whole = b"".join((b">" if told else b"|") + behind + b"\n" for told, behind in lines_of(text))
            self.assertEqual(whole, text.encode("utf-8"))


class Count(unittest.TestCase):
    def assert_counts(self, text, lines, paragraphs, pieces, characters, tags, words):
        with self.subTest(text=text[:60]):
            self.assertEqual(count(text), [0, lines, paragraphs, pieces, characters, tags, words])

    def test_the_empty_document(self):
        self.assert_counts("", 0, 0, 0, 0, 0, 0)

    def test_raw_lines_count_as_lines_and_nothing_else(self):
        self.assert_counts("|\n", 1, 0, 0, 0, 0, 0)
        self.assert_counts("|a b {+1} c\n|\n|d\n", 3, 0, 0, 0, 0, 0)

    def test_empty_paragraphs(self):
        self.assert_counts(">\n", 1, 1, 0, 0, 0, 0)
        self.assert_counts(">\n|\n>\n", 3, 2, 0, 0, 0, 0)

    def test_characters_words_blanks_and_signs(self):
        self.assert_counts(">abc\n", 1, 1, 3, 3, 0, 1)
        self.assert_counts(">ab  cd \n", 1, 1, 7, 7, 0, 2)
        self.assert_counts(">...\n", 1, 1, 3, 3, 0, 0)
        self.assert_counts(">a.b{{c\n", 1, 1, 5, 5, 0, 3)
        self.assert_counts(">\u00e9\u20ac\U0001f600\u2010\n", 1, 1, 4, 4, 0, 1)

    def test_tags_of_each_kind(self):
        self.assert_counts(">{.1}\n", 1, 1, 1, 0, 1, 0)
        self.assert_counts(">{+1}{-1}{.2}\n", 1, 1, 3, 0, 3, 0)
        self.assert_counts(">a{+10}b c{-10}{.999}d\n", 1, 1, 8, 5, 3, 4)

    def test_several_paragraphs_are_added_up(self):
        self.assert_counts(">ab c\n>{.1}d\n|e f\n>{+1}{-1}.\n", 4, 3, 9, 6, 3, 3)
        self.assert_counts(MIXED, 6, 3, 12, 9, 3, 4)

    def test_words_end_with_a_paragraph(self):
        self.assert_counts(">ab\n>cd\n", 2, 2, 4, 4, 0, 2)
        self.assert_counts(">a\n" * 1000, 1000, 1000, 1000, 1000, 0, 1000)

    def test_large_documents(self):
        self.assert_counts("|\n" * 16384, 16384, 0, 0, 0, 0, 0)
        self.assert_counts(">a{.5}\n" * 14000, 14000, 14000, 28000, 14000, 14000, 14000)
        self.assert_counts((">" + "a " * 2048 + "\n") * 24, 24, 24, 24 * 4096, 24 * 4096, 0, 24 * 2048)

    def test_what_doc_and_ask_answer(self):
        chosen = random.Random(41)
        for turn in range(300):
            text = drawn_document(chosen)
            paragraphs = [behind for told, behind in lines_of(text) if told]
            sums = [sum(ask(what, behind)[0] for behind in paragraphs) for what in range(4)]
            self.assertEqual(count(text), [0, doc(text)[0], len(paragraphs), *sums], text)


if __name__ == "__main__":
    unittest.main()
