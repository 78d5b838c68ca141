"""row and ask held against the document's definitions, over many texts.

What a row's text is, is built here from all texts of single pieces and what
begins them; nothing is decoded.
"""

import itertools
import random
import re
import unittest

from support import asked, halves_of, is_character, is_sign, row


def piece_texts():
    """Each piece's text, with the letter that tells of what kind it is."""
    texts = {}
    for code in range(0x110000):
        if is_character(code):
            letter = " " if code == 0x20 else "s" if is_sign(code) else "w"
            texts[b"{{" if code == 0x7B else chr(code).encode("utf-8")] = letter
    for kind in "+-.":
        for number in range(1, 1000):
            texts[f"{{{kind}{number}}}".encode("ascii")] = "t"
    return texts


PIECES = piece_texts()
BEGINNINGS = {text[:length] for text in PIECES for length in range(1, len(text))}


def by_definition(text):
    """The letters of a text's pieces, or the place of its fault."""
    letters = ""
    begun = b""
    for place, byte in enumerate(text):
        begun += bytes([byte])
        if begun in PIECES:
            letters += PIECES[begun]
            begun = b""
        elif begun not in BEGINNINGS:
            return place
    return len(text) if begun else letters


def judged_by_definition(tags):
    halves = halves_of(tags)
    if halves is None:
        return [[0], [0], [0], [0]]
    return [[1], [1 if halves == ([], []) else 0], [len(halves[0])], [len(halves[1])]]


class ByDefinition(unittest.TestCase):
    def assert_row(self, text):
        expected = by_definition(text)
        expected = [-5, expected] if isinstance(expected, int) else [len(expected)]
        if row(text) != expected:
            self.fail(f"{text!r}: {row(text)}, not {expected}")

    def test_every_number_to_10FFFFH(self):
        for code in range(0x110000):
            if code == 0x7B:
                continue
            self.assert_row(chr(code).encode("utf-8", "surrogatepass"))

    def test_every_text_of_two_bytes_at_most(self):
        self.assert_row(b"")
        for first in range(256):
            self.assert_row(bytes([first]))
            for second in range(256):
                self.assert_row(bytes([first, second]))

    def test_longer_texts_of_edge_bytes(self):
        edges = bytes([0x1F, 0x61, 0x7B, 0x7F, 0x80, 0x8F, 0x90, 0x9F, 0xA0, 0xBD, 0xBE, 0xBF, 0xC0])
        for first in range(0xE0, 0xF8):
            for tail in itertools.product(edges, repeat=3):
                self.assert_row(bytes([first, *tail]))

    def test_every_short_text_of_the_signs_of_tags(self):
        for tail in itertools.product(b"{}+-.019a", repeat=5):
            self.assert_row(b"{" + bytes(tail))

    def test_every_tag(self):
        for kind in "+-.":
            for number in range(0, 1100):
                self.assert_row(f"{{{kind}{number}}}".encode("ascii"))

    def test_mixed_texts(self):
        chosen = random.Random(7)
        parts = ["a", "bc", " ", ".", "{{", "}", "{+1}", "{-1}", "{.33}", "{+32}", "{-999}", "\u00a0", "\u00e9"]
        parts += ["\u00bf", "\u00d7", "\u2010", "\u200f", "\u20ac", "\u3000", "\u3040", "\U0001f600", "\ufffd"]
        parts = [part.encode("utf-8") for part in parts]
        wrong = [b"{", b"{+", b"{-0", b"{.1234}", b"\x00", b"\x80", b"\xc2", b"\xe2\x82", b"\xef\xbf\xbf", b"\xff"]
        for turn in range(4000):
            texts = chosen.choices(parts, k=chosen.randrange(12))
            if turn % 2:
                texts.insert(chosen.randrange(len(texts) + 1), chosen.choice(wrong))
            text = b"".join(texts)
            self.assert_row(text)
            letters = by_definition(text)
            if isinstance(letters, int):
                self.assertEqual(asked(text), [[-5]] * 9)
                continue
            tags, words = letters.count("t"), len(re.findall("w+", letters))
            units = words + letters.count("s") + tags
            counts = [len(letters), len(letters) - tags, tags, words, units]
            self.assertEqual(asked(text)[:5], [[count] for count in counts], text)

    def test_every_short_row_of_tags(self):
        every = [(kind, number) for kind in "+-." for number in (1, 2, 3)]
        for length in range(5):
            for tags in itertools.product(every, repeat=length):
                text = "".join(f"{{{kind}{number}}}" for kind, number in tags)
                self.assertEqual(asked(text)[5:], judged_by_definition(tags), text)

    def test_longer_rows_of_tags(self):
        chosen = random.Random(11)
        for turn in range(3000):
            tags = [(kind, number) for kind in "+-" for number in range(1, 6)] + [(".", 6)]
            chosen.shuffle(tags)
            tags = tuple(tags[:chosen.randrange(4, 9)])
            text = "".join(f"{{{kind}{number}}}" for kind, number in tags)
            self.assertEqual(asked(text)[5:], judged_by_definition(tags), text)


if __name__ == "__main__":
    unittest.main()
