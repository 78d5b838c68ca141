"""row: texts of rows, and the first fault of bytes that are none."""

import unittest

from support import row


def utf8(code):
    """A number's bytes in UTF-8's pattern, also of one that is no character."""
    if code < 0x80:
        return bytes([code])
    if code < 0x800:
        return bytes([0xC0 | code >> 6, 0x80 | code & 0x3F])
    if code < 0x10000:
        return bytes([0xE0 | code >> 12, 0x80 | code >> 6 & 0x3F, 0x80 | code & 0x3F])
    return bytes([0xF0 | code >> 18, 0x80 | code >> 12 & 0x3F, 0x80 | code >> 6 & 0x3F, 0x80 | code & 0x3F])


class RowTest(unittest.TestCase):
    def assert_pieces(self, text, number):
        with self.subTest(text=text):
            self.assertEqual(row(text), [number])

    def assert_fault(self, text, place):
        """The fault is the same behind whole pieces and whatever follows it."""
        text = text.encode("utf-8") if isinstance(text, str) else bytes(text)
        before = "a{+7}\u20ac".encode("utf-8")
        with self.subTest(text=text):
            self.assertEqual(row(text), [-5, place])
            self.assertEqual(row(before + text), [-5, len(before) + place])
            if place < len(text):
                self.assertEqual(row(text + b"\x00{x"), [-5, place])
                self.assertEqual(row(text[:place + 1]), [-5, place])


class Characters(RowTest):
    def test_the_empty_text_is_a_row_without_pieces(self):
        self.assert_pieces("", 0)

    def test_characters_of_one_to_four_bytes(self):
        self.assert_pieces("a", 1)
        self.assert_pieces("\u00e9", 1)
        self.assert_pieces("\u20ac", 1)
        self.assert_pieces("\U0001f600", 1)
        self.assert_pieces("a\u00e9\u20ac\U0001f600 ", 5)

    def test_the_edges_that_are_characters(self):
        codes = [0x20, 0x7E, 0xA0, 0x7FF, 0x800, 0xFFF, 0x1000, 0xD7FF, 0xE000]
        codes += [0xFDD0, 0xFDEF, 0xFFFD, 0x10000, 0x3FFFF - 2, 0x40000, 0x10FFFD]
        for code in codes:
            self.assert_pieces(utf8(code), 1)

    def test_the_edges_of_one_and_two_bytes_that_are_none(self):
        for code in [0x00, 0x09, 0x0A, 0x1F, 0x7F]:
            self.assert_fault(utf8(code), 0)
        for code in [0x80, 0x9F]:
            self.assert_fault(utf8(code), 1)

    def test_surrogates_fail_at_their_second_byte(self):
        for code in [0xD800, 0xDBFF, 0xDC00, 0xDFFF]:
            self.assert_fault(utf8(code), 1)

    def test_the_last_two_numbers_of_each_10000H_fail_at_their_last_byte(self):
        for plane in range(0x11):
            self.assert_pieces(utf8(plane * 0x10000 + 0xFFFD), 1)
            for low in [0xFFFE, 0xFFFF]:
                code = plane * 0x10000 + low
                self.assert_fault(utf8(code), len(utf8(code)) - 1)
            if plane > 0:
                self.assert_pieces(utf8(plane * 0x10000), 1)

    def test_like_low_bits_elsewhere_are_characters(self):
        for code in [0xFFBE, 0xFFBF, 0xEFFE, 0xEFFF, 0x1EFFF, 0x1FFBF, 0x7FE, 0x7FF, 0x3FE, 0x3FF]:
            self.assert_pieces(utf8(code), 1)

    def test_past_10FFFFH(self):
        self.assert_fault(utf8(0x110000), 1)
        self.assert_fault(utf8(0x13FFFF), 1)
        for first in range(0xF5, 0x100):
            self.assert_fault([first, 0x80, 0x80, 0x80], 0)

    def test_overlong_forms(self):
        self.assert_fault([0xC0, 0x80], 0)
        self.assert_fault([0xC1, 0xBF], 0)
        self.assert_fault([0xE0, 0x80, 0x80], 1)
        self.assert_fault([0xE0, 0x9F, 0xBF], 1)
        self.assert_fault([0xF0, 0x80, 0x80, 0x80], 1)
        self.assert_fault([0xF0, 0x8F, 0xBF, 0xBF], 1)

    def test_a_tail_byte_without_a_first_byte(self):
        for byte in range(0x80, 0xC0):
            self.assert_fault([byte], 0)

    def test_another_byte_in_the_place_of_a_tail_byte(self):
        for whole in ["\u00e9", "\u20ac", "\U0001f600"]:
            whole = whole.encode("utf-8")
            for place in range(1, len(whole)):
                for byte in [0x20, 0x61, 0x7B, 0x7F, 0xC0, 0xC3, 0xFF]:
                    self.assert_fault(whole[:place] + bytes([byte]) + whole[place + 1:], place)

    def test_cut_off_characters_fail_at_the_number_of_bytes(self):
        for whole in ["\u00e9", "\u20ac", "\uffff", "\U0001f600", "\U0010ffff"]:
            whole = whole.encode("utf-8")
            for place in range(1, len(whole)):
                self.assert_fault(whole[:place], place)


class BracesAndTags(RowTest):
    def test_a_doubled_brace_is_one_character(self):
        self.assert_pieces("{{", 1)
        self.assert_pieces("{{{{", 2)
        self.assert_pieces("{{+1}", 4)
        self.assert_pieces("{{{+1}", 2)

    def test_a_right_brace_is_a_character(self):
        self.assert_pieces("}", 1)
        self.assert_pieces("}}", 2)
        self.assert_pieces("{+1}}", 2)

    def test_a_single_brace(self):
        self.assert_fault("{", 1)
        self.assert_fault("{{{", 3)

    def test_tags_of_each_kind_with_one_two_and_three_digits(self):
        for kind in "+-.":
            for number in [1, 2, 9, 10, 11, 19, 90, 99, 100, 101, 110, 900, 998, 999]:
                self.assert_pieces(f"{{{kind}{number}}}", 1)
                self.assert_pieces(f"a{{{kind}{number}}}b", 3)

    def test_a_nought_in_front(self):
        for kind in "+-.":
            for digits in ["0", "01", "00", "001", "010"]:
                self.assert_fault(f"{{{kind}{digits}}}", 2)

    def test_no_digit(self):
        for kind in "+-.":
            for behind in ["}", "a", " ", "+", "{", "/1", ":1"]:
                self.assert_fault(f"{{{kind}{behind}}}", 2)

    def test_four_digits(self):
        for kind in "+-.":
            for number in ["1000", "1234", "9999", "10000"]:
                self.assert_fault(f"{{{kind}{number}}}", 5)

    def test_another_byte_in_the_place_of_the_right_brace(self):
        for kind in "+-.":
            for number in ["1", "12", "123"]:
                for behind in ["|", "~", "{", "a", "/", ":", " ", "\u00e9"]:
                    self.assert_fault(f"{{{kind}{number}{behind}}}", 2 + len(number))

    def test_tags_that_end_too_early(self):
        for kind in "+-.":
            for text in ["{" + kind, "{" + kind + "1", "{" + kind + "12", "{" + kind + "123"]:
                self.assert_fault(text, len(text))

    def test_another_byte_behind_the_brace(self):
        for byte in range(256):
            if byte not in b"{+-.":
                self.assert_fault([0x7B, byte, 0x31, 0x7D], 1)

    def test_the_first_of_several_faults(self):
        self.assert_fault(b"ab\x00{x\xff", 2)
        self.assert_fault(b"ab{x\x00", 3)


if __name__ == "__main__":
    unittest.main()
