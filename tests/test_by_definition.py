"""A1: row, ask and doc held against the document's definitions, over many texts.

What a row's text is, is built here from all texts of single pieces and what
begins them; nothing is decoded. A document's fault is the first kind of all
that hold of a line, each told by itself.
"""

import itertools
import random
import re
import unittest

from support import answered, asked, cut, doc, drawn_document, halves_of
from support import is_character, is_sign, lines_of, row, tags_in


def piece_texts():
    """Each piece's text, with the letter that tells of what kind it is."""
    texts = {}
    for code in range(0x110000):
        if is_character(code):
            letter = " " if code == 0x20 else "s" if is_sign(code) else "w"
            texts[b"{{" if code == 0x7B else chr(code).encode("utf-8")] = letter
    for kind in "+-.":
        for number in range(1, 1000):
            texts[f"{{{kind}{number}}}".encode("ascii")] = "t"
    return texts


PIECES = piece_texts()
BEGINNINGS = {text[:length] for text in PIECES for length in range(1, len(text))}


def by_definition(text, is_raw=False):
    """The letters of a text's pieces, or the place of its fault; a raw line's braces are characters."""
    letters = ""
    begun = b""
    for place, byte in enumerate(text):
        begun += bytes([byte])
        if begun in PIECES:
            letters += PIECES[begun]
            begun = b""
        elif is_raw and begun == b"{":
            letters += "s"
            begun = b""
        elif begun not in BEGINNINGS:
            return place
    return len(text) if begun else letters


def judged_by_definition(tags):
    halves = halves_of(tags)
    if halves is None:
        return [[0], [0], [0], [0]]
    return [[1], [1 if halves == ([], []) else 0], [len(halves[0])], [len(halves[1])]]


def is_paired(text):
    tags = [(piece[1], piece[2:-1]) for piece in tags_in(text.decode("utf-8"))]
    return halves_of(tuple(tags)) == ([], [])


def faults_of_line(whole, start, number):
    """Every kind of fault that holds of the line from start on, with its place."""
    end = whole.find(b"\n", start)
    text = whole[start:] if end < 0 else whole[start:end]
    faults = {}
    if number == 16384:
        faults[6] = start
    if text[:1] not in (b"|", b">"):
        faults[1] = start
        return faults
    if end < 0:
        faults[5] = len(whole)
    letters = by_definition(text[1:], text[:1] == b"|")
    if isinstance(letters, int):
        faults[2] = start + 1 + letters
    elif len(letters) > 4096:
        faults[4] = start
    if text[:1] == b">" and not isinstance(letters, int) and not is_paired(text[1:]):
        faults[3] = start
    return faults


def document_by_definition(text):
    """What doc answers."""
    number = 0
    start = 0
    while start < len(text):
        faults = faults_of_line(text, start, number)
        for kind in (6, 1, 5, 2, 4, 3):
            if kind in faults:
                return [-5, kind, faults[kind]]
        number += 1
        start = text.index(b"\n", start) + 1
    return [number]


class ByDefinition(unittest.TestCase):
    def assert_row(self, text):
        expected = by_definition(text)
        expected = [-5, expected] if isinstance(expected, int) else [len(expected)]
        if row(text) != expected:
            self.fail(f"{text!r}: {row(text)}, not {expected}")

    def test_every_number_to_10FFFFH(self):
        for code in range(0x110000):
            if code == 0x7B:
                continue
            self.assert_row(chr(code).encode("utf-8", "surrogatepass"))

    def test_every_text_of_two_bytes_at_most(self):
        self.assert_row(b"")
        for first in range(256):
            self.assert_row(bytes([first]))
            for second in range(256):
                self.assert_row(bytes([first, second]))

    def test_longer_texts_of_edge_bytes(self):
        edges = bytes([0x1F, 0x61, 0x7B, 0x7F, 0x80, 0x8F, 0x90, 0x9F, 0xA0, 0xBD, 0xBE, 0xBF, 0xC0])
        for first in range(0xE0, 0xF8):
            for tail in itertools.product(edges, repeat=3):
                self.assert_row(bytes([first, *tail]))

    def test_every_short_text_of_the_signs_of_tags(self):
        for tail in itertools.product(b"{}+-.019a", repeat=5):
            self.assert_row(b"{" + bytes(tail))

    def test_every_tag(self):
        for kind in "+-.":
            for number in range(0, 1100):
                self.assert_row(f"{{{kind}{number}}}".encode("ascii"))

    def test_mixed_texts(self):
        chosen = random.Random(7)
        parts = ["a", "bc", " ", ".", "{{", "}", "{+1}", "{-1}", "{.33}", "{+32}", "{-999}", "\u00a0", "\u00e9"]
        parts += ["\u00bf", "\u00d7", "\u2010", "\u200f", "\u20ac", "\u3000", "\u3040", "\U0001f600", "\ufffd"]
        parts = [part.encode("utf-8") for part in parts]
        wrong = [b"{", b"{+", b"{-0", b"{.1234}", b"\x00", b"\x80", b"\xc2", b"\xe2\x82", b"\xef\xbf\xbf", b"\xff"]
        for turn in range(4000):
            texts = chosen.choices(parts, k=chosen.randrange(12))
            if turn % 2:
                texts.insert(chosen.randrange(len(texts) + 1), chosen.choice(wrong))
            text = b"".join(texts)
            self.assert_row(text)
            letters = by_definition(text)
            if isinstance(letters, int):
                self.assertEqual(asked(text), [[-5]] * 9)
                continue
            tags, words = letters.count("t"), len(re.findall("w+", letters))
            units = words + letters.count("s") + tags
            counts = [len(letters), len(letters) - tags, tags, words, units]
            self.assertEqual(asked(text)[:5], [[count] for count in counts], text)

    def test_every_short_row_of_tags(self):
        every = [(kind, number) for kind in "+-." for number in (1, 2, 3)]
        for length in range(5):
            for tags in itertools.product(every, repeat=length):
                text = "".join(f"{{{kind}{number}}}" for kind, number in tags)
                self.assertEqual(asked(text)[5:], judged_by_definition(tags), text)

    def test_longer_rows_of_tags(self):
        chosen = random.Random(11)
        for turn in range(3000):
            tags = [(kind, number) for kind in "+-" for number in range(1, 6)] + [(".", 6)]
            chosen.shuffle(tags)
            tags = tuple(tags[:chosen.randrange(4, 9)])
            text = "".join(f"{{{kind}{number}}}" for kind, number in tags)
            self.assertEqual(asked(text)[5:], judged_by_definition(tags), text)


class OneTextOneFirstFault(unittest.TestCase):
    """Every text of a few bytes, or of a few stretches of bytes."""

    BYTES = b"|>\n{+1}a\xc3\xa9\x00"
    STRETCHES = [b"|", b">", b"\n", b"{+1}", b"{-1}", b"{.2}", b"{", b"{{", b"}", b"a ", b"\xc3", b"\xa9", b"\x7f"]

    def assert_document(self, text):
        expected = document_by_definition(text)
        answer = doc(text)
        if answer != expected:
            self.fail(f"{text!r}: {answer}, not {expected}")
        if expected[0] >= 0:
            whole = b"".join((b">" if told else b"|") + behind + b"\n" for told, behind in lines_of(text))
            self.assertEqual(whole, text)

    def assert_row(self, text):
        letters = by_definition(text)
        if isinstance(letters, int):
            self.assertEqual(row(text), [-5, letters], text)
        else:
            self.assertEqual(row(text), [len(letters)], text)
            self.assertEqual(cut(0, len(letters), text), answered(text))

    def test_every_short_text_of_chosen_bytes(self):
        for length in range(6):
            for drawn in itertools.product(self.BYTES, repeat=length):
                self.assert_row(bytes(drawn))
                self.assert_document(bytes(drawn))

    def test_every_short_text_of_chosen_stretches(self):
        for length in range(5):
            for drawn in itertools.product(self.STRETCHES, repeat=length):
                text = b"".join(drawn)
                self.assert_row(text)
                self.assert_document(text)
                self.assert_document(b">" + text + b"\n")
                self.assert_document(b"|" + text + b"\n")

    def test_drawn_documents_with_something_wrong(self):
        chosen = random.Random(43)
        for turn in range(3000):
            text = drawn_document(chosen).encode("utf-8")
            self.assert_document(text)
            place = chosen.randrange(len(text) + 1)
            self.assert_document(text[:place] + chosen.choice(self.STRETCHES) + text[place:])
            self.assert_document(text[:place] + text[place + 1:])
            self.assert_document(text[:place])

    def test_drawn_large_documents(self):
        chosen = random.Random(47)
        large = [b"|" + b"a" * 4096 + b"\n", b">" + b"{{" * 4096 + b"\n", b"|" + b"{" * 4097 + b"\n"]
        large += [b">" + b"{.1}" * 4097 + b"\n", b">{+1}" + b"a" * 4095 + b"\n", b">" + b"a" * 70000 + b"{\n"]
        large += [b"|\n" * 16383, b">\n" * 16384, b"|" + b"a" * 5000, b"|\n", b">{+1}\n", b"\n", b"|\x00\n", b">a"]
        for turn in range(60):
            self.assert_document_answer(b"".join(chosen.choices(large, k=3))[:100000])

    def assert_document_answer(self, text):
        self.assertEqual(doc(text), document_by_definition(text), text[:60])


if __name__ == "__main__":
    unittest.main()
