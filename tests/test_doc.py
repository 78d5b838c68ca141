"""doc: how many lines, and the first fault's kind and place."""

import unittest

from support import as_bytes, doc

MOST_LINES = 16384
MOST_PIECES = 4096
HEAD = b"|raw {\n>a{+1}b{-1}\n"
TAIL = b">c\n|d\n"
FULL = b"|\n" * MOST_LINES

TOO_MANY_LINES = 6
NO_MARK = 1
NOT_ENDED = 5
WRONG_BYTE = 2
TOO_LARGE = 4
NOT_PAIRED = 3


class DocTest(unittest.TestCase):
    def assert_lines(self, text, number):
        with self.subTest(text=text[:60]):
            self.assertEqual(doc(text), [number])

    def assert_fault(self, text, kind, place):
        with self.subTest(text=text[:60]):
            self.assertEqual(doc(text), [-5, kind, place])

    def assert_faulty_line(self, line, kind, place):
        """The ended line's fault, as the first, a middle, the last line, and ahead of another faulty line."""
        line = bytes(as_bytes(line))
        self.assertEqual(line[-1:], b"\n")
        self.assert_fault(line, kind, place)
        self.assert_fault(line + TAIL, kind, place)
        self.assert_fault(HEAD + line, kind, len(HEAD) + place)
        self.assert_fault(HEAD + line + TAIL, kind, len(HEAD) + place)
        for other in [b"\n", b"x\n", b"|\x00\n", b">{+1}\n", b"|", b"|" + b"a" * 5000 + b"\n"]:
            self.assert_fault(line + other, kind, place)
            self.assert_fault(HEAD + line + other, kind, len(HEAD) + place)


class Documents(DocTest):
    def test_the_empty_text(self):
        self.assert_lines("", 0)

    def test_raw_lines(self):
        self.assert_lines("|\n", 1)
        self.assert_lines("|a\n", 1)
        self.assert_lines("|a\n|\n|b c\n", 3)
        self.assert_lines("| ~\u00a0\u00e9\u20ac\uffe6\U0001f600\U0010fffd\n", 1)
        self.assert_lines("||\n|>\n|>|\n", 3)

    def test_braces_are_characters_of_raw_lines(self):
        for text in ["{", "}", "{{{", "{x}", "{+1", "{+0}", "{+1}", "{-1}{+1}", "{.1}{.1}", "{+1000}"]:
            self.assert_lines("|" + text + "\n", 1)

    def test_paragraphs(self):
        self.assert_lines(">\n", 1)
        self.assert_lines(">a\n", 1)
        self.assert_lines(">a{+1}b{-1}\n>\n>{{\u20ac}{.999}\n", 3)
        self.assert_lines(">>\n>|\n", 2)

    def test_each_paragraph_by_itself_may_have_the_same_tags(self):
        self.assert_lines(">{+1}{-1}{.2}\n>{.1}\n>{+2}{-2}\n", 3)

    def test_raw_lines_and_paragraphs(self):
        self.assert_lines(HEAD, 2)
        self.assert_lines(HEAD + TAIL, 4)
        self.assert_lines("|\n>\n|\n>\n", 4)

    def test_many_lines(self):
        self.assert_lines(FULL, MOST_LINES)
        self.assert_lines(b">a\n" * MOST_LINES, MOST_LINES)
        self.assert_lines(FULL[2:], MOST_LINES - 1)

    def test_large_lines(self):
        self.assert_lines("|" + "a" * MOST_PIECES + "\n", 1)
        self.assert_lines("|" + "\U0001f600" * MOST_PIECES + "\n", 1)
        self.assert_lines("|" + "{" * MOST_PIECES + "\n", 1)
        self.assert_lines(">" + "a" * MOST_PIECES + "\n", 1)
        self.assert_lines(">" + "{{" * MOST_PIECES + "\n", 1)
        tags = "".join(f"{{+{n}}}{{-{n}}}" for n in range(1, 1000))
        self.assert_lines(">" + tags + "\U0001f600" * (MOST_PIECES - 1998) + "\n", 1)

    def test_as_many_bytes_as_can_be_handed_in(self):
        line = b"|" + b"a" * 98 + b"\n"
        self.assert_lines(line * 1000, 1000)
        self.assert_fault(line * 999 + line[:-1] + b"a", NOT_ENDED, 100000)

    def test_more_bytes_than_a_document_has(self):
        line = b"|" + b"a" * 4094 + b"\n"
        self.assert_lines(line * 64, 64)
        self.assertEqual(doc(line * 64 + b"|"), [-6])


class Kinds(DocTest):
    def test_6_too_many_lines(self):
        for line in [b"|\n", b">\n", b"|a\n", b">{+1}{-1}\n"]:
            self.assert_fault(FULL + line, TOO_MANY_LINES, 2 * MOST_LINES)
            self.assert_fault(FULL + line * 3, TOO_MANY_LINES, 2 * MOST_LINES)
        self.assert_fault(b">a\n" * (MOST_LINES + 1), TOO_MANY_LINES, 3 * MOST_LINES)

    def test_1_no_byte(self):
        self.assert_faulty_line("\n", NO_MARK, 0)
        self.assert_fault("\n\n", NO_MARK, 0)
        self.assert_fault("|a\n\n", NO_MARK, 3)

    def test_1_another_first_byte(self):
        for byte in range(256):
            if byte not in b"\n|>":
                self.assert_faulty_line(bytes([byte]) + b"\n", NO_MARK, 0)
        for line in ["a|\n", " >a\n", "{+1}\n", "\u20ac\n", "x" * 5000 + "\n"]:
            self.assert_faulty_line(line, NO_MARK, 0)

    def test_5_the_last_line_is_not_ended(self):
        for line in [b"|", b">", b"|abc", b">abc", b">{+1}{-1}", b"|{"]:
            for head in [b"", b"|\n", HEAD, HEAD + TAIL]:
                self.assert_fault(head + line, NOT_ENDED, len(head + line))

    def test_2_behind_a_raw_line_s_mark(self):
        for byte in [0x00, 0x09, 0x0D, 0x1F, 0x7F, 0x80, 0xBF, 0xC0, 0xC1, 0xF5, 0xFF]:
            self.assert_faulty_line(b"|" + bytes([byte]) + b"\n", WRONG_BYTE, 1)
            self.assert_faulty_line(b"|a{\xe2\x82\xac" + bytes([byte]) + b"b\n", WRONG_BYTE, 6)
        for wrong, place in [(b"\xc2\x80", 1), (b"\xe0\x80\x80", 1), (b"\xed\xa0\x80", 1), (b"\xf4\x90\x80\x80", 1)]:
            self.assert_faulty_line(b"|ab" + wrong + b"\n", WRONG_BYTE, 3 + place)
        for wrong, place in [(b"\xef\xbf\xbe", 2), (b"\xef\xbf\xbf", 2), (b"\xf0\x9f\xbf\xbf", 3), (b"\xc3a", 1)]:
            self.assert_faulty_line(b"|ab" + wrong + b"\n", WRONG_BYTE, 3 + place)

    def test_2_a_raw_line_s_character_ends_too_early(self):
        for wrong in [b"\xc3", b"\xe2", b"\xe2\x82", b"\xf0", b"\xf0\x9f", b"\xf0\x9f\x98", b"{\xc3"]:
            for before in [b"|", b"|ab", b"|{+1"]:
                self.assert_faulty_line(before + wrong + b"\n", WRONG_BYTE, len(before + wrong))

    def test_2_a_row_s_fault_within(self):
        for wrong, place in [(b"\x00", 0), (b"\x7f", 0), (b"{x}", 1), (b"{}", 1), (b"{+}", 2), (b"{+01}", 2)]:
            self.assert_faulty_line(b">" + wrong + b"\n", WRONG_BYTE, 1 + place)
            self.assert_faulty_line(b">ab" + wrong + b"c\n", WRONG_BYTE, 3 + place)
        for wrong, place in [(b"{.1000}", 5), (b"{-1 }", 3), (b"\xc2\x9f", 1), (b"\xed\xa0\x80", 1), (b"\xffa", 0)]:
            self.assert_faulty_line(b">" + wrong + b"\n", WRONG_BYTE, 1 + place)
            self.assert_faulty_line(b">{{{.3}" + wrong + b"c\n", WRONG_BYTE, 7 + place)

    def test_2_a_row_s_fault_at_the_line_s_end(self):
        for wrong in [b"{", b"{+", b"{-1", b"{.12", b"{+123", b"\xc3", b"\xe2\x82", b"\xf0\x9f\x98", b"{{{"]:
            for before in [b">", b">ab", b">{{{.1}"]:
                self.assert_faulty_line(before + wrong + b"\n", WRONG_BYTE, len(before + wrong))

    def test_4_too_many_characters_or_pieces(self):
        for character in ["a", "{", "}", "\u00e9", "\u20ac", "\U0001f600"]:
            self.assert_lines("|" + character * MOST_PIECES + "\n", 1)
            self.assert_faulty_line("|" + character * (MOST_PIECES + 1) + "\n", TOO_LARGE, 0)
        for piece in ["a", "{{", "\u20ac", "\U0001f600"]:
            self.assert_lines(">" + piece * MOST_PIECES + "\n", 1)
            self.assert_faulty_line(">" + piece * (MOST_PIECES + 1) + "\n", TOO_LARGE, 0)
        self.assert_lines(">" + "a" * (MOST_PIECES - 2) + "{+1}{-1}\n", 1)
        self.assert_faulty_line(">" + "a" * (MOST_PIECES - 1) + "{+1}{-1}\n", TOO_LARGE, 0)

    def test_4_too_many_bytes(self):
        for number in [65535, 65536, 65537, 65538, 80000]:
            self.assert_fault(b">" + b"a" * number + b"\n", TOO_LARGE, 0)
            self.assert_fault(HEAD + b">" + b"a" * number + b"\n" + TAIL, TOO_LARGE, len(HEAD))
            self.assert_fault(b"|" + b"a" * number + b"\n", TOO_LARGE, 0)
        self.assert_fault(">" + "{.999}" * 10923 + "\n", TOO_LARGE, 0)

    def test_3_halves(self):
        for text in ["{+1}", "{-1}", "{-1}{+2}", "{+1}{+2}{-2}", "a{+1}b{-1}{-2}c", "{.1}{+2}"]:
            self.assert_faulty_line(">" + text + "\n", NOT_PAIRED, 0)

    def test_3_not_straight(self):
        for text in ["{+1}{+2}{-1}{-2}", "{-1}{+1}", "{.1}{.1}", "{+1}{-1}{+1}{-1}", "{.1}{+1}{-1}", "a{+1}b{-2}"]:
            self.assert_faulty_line(">" + text + "\n", NOT_PAIRED, 0)


class KindsInTheirOrder(DocTest):
    def test_6_ahead_of_each_other_kind(self):
        for line in [b"\n", b"x\n", b"x", b"|", b">", b"|\x00\n", b">{\n", b"|a\x00", b">{+1}\n", b"\x00"]:
            self.assert_fault(FULL + line, TOO_MANY_LINES, 2 * MOST_LINES)
        for mark in [b"|", b">"]:
            self.assert_fault(FULL + mark + b"a" * 5000 + b"\n", TOO_MANY_LINES, 2 * MOST_LINES)

    def test_a_fault_of_the_last_line_that_may_stand(self):
        head = FULL[2:]
        for line, kind, place in [(b"\n", 1, 0), (b"x", 1, 0), (b"|", 5, 1), (b"|\x00\n", 2, 1), (b">{+1}\n", 3, 0)]:
            self.assert_fault(head + line, kind, len(head) + place)
            if line[-1:] == b"\n":
                self.assert_fault(head + line + b"|\n", kind, len(head) + place)

    def test_1_ahead_of_5(self):
        for line in [b"a", b"\x00", b"{", b"abc", b"\xe2\x82", b" |", b"a" * 5000]:
            for head in [b"", HEAD]:
                self.assert_fault(head + line, NO_MARK, len(head))

    def test_1_ahead_of_what_stands_behind_the_first_byte(self):
        for line in [b"a\x00\n", b"a{\n", b"x{+1}\n", b"a" * 5000 + b"\n", b"x" + b"{.1}" * 5000 + b"\n"]:
            self.assert_faulty_line(line, NO_MARK, 0)

    def test_5_ahead_of_2(self):
        for line in [b"|\x00", b"|a\x00b", b"|\xc3", b">\x00", b">{", b">{+1", b">ab{x}", b">\xe2\x82"]:
            for head in [b"", HEAD]:
                self.assert_fault(head + line, NOT_ENDED, len(head + line))

    def test_5_ahead_of_4_and_3(self):
        for line in [b"|" + b"a" * 5000, b">" + b"a" * 5000, b">" + b"a" * 70000, b">{+1}", b">{.1}{.1}"]:
            for head in [b"", HEAD]:
                self.assert_fault(head + line, NOT_ENDED, len(head + line))

    def test_2_ahead_of_4(self):
        for number in [MOST_PIECES, MOST_PIECES + 1, 5000, 65535, 65536, 65537, 70000]:
            for mark in [b"|", b">"]:
                self.assert_fault(mark + b"a" * number + b"\x00\n", WRONG_BYTE, number + 1)
                self.assert_fault(HEAD + mark + b"a" * number + b"\xc3\n", WRONG_BYTE, len(HEAD) + number + 2)
            self.assert_fault(b">" + b"a" * number + b"{\n", WRONG_BYTE, number + 2)

    def test_2_ahead_of_3(self):
        self.assert_faulty_line(b">{+1}\x00\n", WRONG_BYTE, 5)
        self.assert_faulty_line(b">{.1}{.1}{x\n", WRONG_BYTE, 10)
        self.assert_faulty_line(b">{-1}{+1}{\n", WRONG_BYTE, 10)

    def test_4_ahead_of_3(self):
        self.assert_faulty_line(">{+1}" + "a" * MOST_PIECES + "\n", TOO_LARGE, 0)
        self.assert_faulty_line(">" + "{.1}" * (MOST_PIECES + 1) + "\n", TOO_LARGE, 0)
        self.assert_faulty_line(">{+1}" + "a" * (MOST_PIECES - 1) + "\n", NOT_PAIRED, 0)
        self.assert_faulty_line(">" + "{.1}" * MOST_PIECES + "\n", NOT_PAIRED, 0)


if __name__ == "__main__":
    unittest.main()
