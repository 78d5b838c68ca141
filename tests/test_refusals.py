"""The refusals of the calls over texts, in their order, and that a call stands by itself."""

import functools
import unittest

from support import LARGEST, answered, ask, asked, as_bytes, called
from support import count, cut, doc, fits, form, line, row, tag, tags, unit
from ferryrows import rows

MOST_BYTES = 65536
MOST_PIECES = 4096
PIECES = ["a", "{{", "\u20ac", "\U0001f600", "{.999}"]
NO_ROWS = [b"\x00", b"{", b"ab{x", b"{+1", b"{.1000}", b"{-0}", b"\xc2\x80", b"a\n", b"\xff"]

# Every call over one text, with the numbers that are handed in ahead of it.
CALLS = [(rows.row, [])] + [(rows.ask, [what]) for what in range(10)]
CALLS += [(rows.form, []), (rows.tags, []), (rows.cut, [0, 0]), (rows.cut, [0, 1]), (rows.cut, [1, 0])]
CALLS += [(rows.unit, [0]), (rows.unit, [LARGEST]), (rows.doc, [])]
CALLS += [(rows.line, [0]), (rows.line, [1]), (rows.line, [LARGEST]), (rows.count, [])]


def every_answer(text):
    answers = [called(call, *numbers, as_bytes(text)) for call, numbers in CALLS]
    return answers + [fits(text, text), fits("", text), fits(text, "")]


class Refusals(unittest.TestCase):
    def test_the_most_pieces(self):
        for piece in PIECES:
            text = piece * MOST_PIECES
            self.assertEqual(row(text), [MOST_PIECES])
            self.assertEqual(ask("pieces", text), [MOST_PIECES])

    def test_one_piece_too_many(self):
        for piece in PIECES:
            text = piece * (MOST_PIECES + 1)
            self.assertEqual(row(text), [-6])
            self.assertEqual(asked(text), [[-6]] * 9)

    def test_no_row_ahead_of_too_many_pieces(self):
        for pieces in [MOST_PIECES, MOST_PIECES + 1, 5000]:
            self.assertEqual(row(b"a" * pieces + b"\x00"), [-5, pieces])
            self.assertEqual(row(b"a" * pieces + b"{"), [-5, pieces + 1])
            self.assertEqual(asked(b"a" * pieces + b"\x00"), [[-5]] * 9)

    def test_the_most_bytes_are_read(self):
        self.assertEqual(row(b"a" * MOST_BYTES), [-6])
        self.assertEqual(row(b"a" * (MOST_BYTES - 1) + b"\x00"), [-5, MOST_BYTES - 1])
        self.assertEqual(row(b"a" * (MOST_BYTES - 1) + b"{"), [-5, MOST_BYTES])
        self.assertEqual(row(b"\x00" * MOST_BYTES), [-5, 0])
        self.assertEqual(ask(0, b"\x00" * MOST_BYTES), [-5])
        self.assertEqual(ask(9, b"\x00" * MOST_BYTES), [-1])

    def test_too_many_bytes_ahead_of_all(self):
        for number in [MOST_BYTES + 1, 100000]:
            for text in [b"a" * number, b"\x00" * number, b"a" * (number - 1) + b"{"]:
                self.assertEqual(row(text), [-6])
                self.assertEqual(asked(text), [[-6]] * 9)
                self.assertEqual(ask(9, text), [-6])
                self.assertEqual(ask(4294967295, text), [-6])

    def test_what_above_8(self):
        for what in [9, 10, 255, 4294967295]:
            self.assertEqual(ask(what, "ab"), [-1])
            self.assertEqual(ask(what, ""), [-1])
        self.assertEqual(ask(8, "ab"), [0])

    def test_what_above_8_ahead_of_no_row_and_of_too_many_pieces(self):
        for what in [9, 4294967295]:
            self.assertEqual(ask(what, b"\x00"), [-1])
            self.assertEqual(ask(what, b"{"), [-1])
            self.assertEqual(ask(what, b"a" * (MOST_PIECES + 1)), [-1])
            self.assertEqual(ask(what, b"a" * 5000 + b"\x00"), [-1])

    def test_the_place_stands_behind_no_row_of_row_alone(self):
        for text, place in [(b"\x00", 0), (b"ab{x", 3), (b"{+1", 3), (b"\xc2\x80", 1)]:
            self.assertEqual(row(text), [-5, place])
            self.assertEqual(asked(text), [[-5]] * 9)


class RefusalsOfTexts(unittest.TestCase):
    """The calls that tell no place behind -5, with numbers that alone would give no refusal, or -2 at the end."""

    CALLS = [form, tags, functools.partial(cut, 0, 0), functools.partial(cut, 0, LARGEST)]
    CALLS += [functools.partial(unit, 0), functools.partial(unit, LARGEST)]

    def test_the_most_pieces(self):
        for piece in PIECES:
            text = piece * MOST_PIECES
            is_tag = piece == "{.999}"
            self.assertEqual(form(text), answered(text.replace("999", "1")))
            self.assertEqual(tags(text), answered(text if is_tag else ""))
            self.assertEqual(cut(0, MOST_PIECES, text), answered(text))
            self.assertEqual(cut(0, MOST_PIECES + 1, text), [-2])
            self.assertEqual(unit(MOST_PIECES, text), [-2])
        self.assertEqual(unit(MOST_PIECES - 1, "{.999}" * MOST_PIECES), [0, 2, 2, 1, 0x31])
        self.assertEqual(unit(0, "a" * MOST_PIECES), [0, 0, 0] + answered("a" * MOST_PIECES)[1:])

    def test_one_piece_too_many(self):
        for piece in PIECES:
            for call in self.CALLS:
                self.assertEqual(call(piece * (MOST_PIECES + 1)), [-6])

    def test_no_row_alone(self):
        for text in NO_ROWS:
            for call in self.CALLS:
                self.assertEqual(call(text), [-5])
                self.assertEqual(call(b"a{.1}" + text), [-5])

    def test_no_row_ahead_of_too_many_pieces(self):
        for text in NO_ROWS:
            for call in self.CALLS:
                self.assertEqual(call(b"a" * (MOST_PIECES + 1) + text), [-5])

    def test_the_most_bytes_are_read(self):
        for call in self.CALLS:
            self.assertEqual(call(b"a" * MOST_BYTES), [-6])
            self.assertEqual(call(b"a" * (MOST_BYTES - 1) + b"\x00"), [-5])
            self.assertEqual(call(b"\x00" * MOST_BYTES), [-5])

    def test_too_many_bytes_ahead_of_all(self):
        for number in [MOST_BYTES + 1, 100000]:
            for text in [b"a" * number, b"\x00" * number, b"a" * (number - 1) + b"{"]:
                for call in self.CALLS:
                    self.assertEqual(call(text), [-6])


class RefusalsOfCut(unittest.TestCase):
    ABOVE = [(1, 0), (2, 1), (4097, 4096), (LARGEST, 0), (LARGEST, LARGEST - 1)]

    def test_start_above_to(self):
        for start, to in self.ABOVE:
            for text in ["", "a", "abc", "{.1}" * 5]:
                self.assertEqual(cut(start, to, text), [-1])

    def test_too_many_bytes_ahead_of_start_above_to(self):
        for start, to in self.ABOVE:
            for text in [b"a" * (MOST_BYTES + 1), b"\x00" * 100000]:
                self.assertEqual(cut(start, to, text), [-6])

    def test_start_above_to_ahead_of_no_row_and_of_too_many_pieces(self):
        for start, to in self.ABOVE:
            for text in NO_ROWS + [b"\x00" * MOST_BYTES, b"a" * (MOST_PIECES + 1), b"a" * 5000 + b"{"]:
                self.assertEqual(cut(start, to, text), [-1])

    def test_too_many_pieces_ahead_of_to_above_their_number(self):
        for to in [0, MOST_PIECES, MOST_PIECES + 1, MOST_PIECES + 2, LARGEST]:
            self.assertEqual(cut(0, to, "a" * (MOST_PIECES + 1)), [-6])

    def test_no_row_ahead_of_to_above_the_number_of_pieces(self):
        for text in NO_ROWS:
            self.assertEqual(cut(0, LARGEST, text), [-5])
            self.assertEqual(cut(LARGEST, LARGEST, text), [-5])


class RefusalsOfFits(unittest.TestCase):
    TOO_MANY_BYTES = [b"a" * (MOST_BYTES + 1), b"\x00" * 100000]
    TOO_MANY_PIECES = [b"a" * (MOST_PIECES + 1), b"{.1}" * (MOST_PIECES + 1), b"a" * MOST_BYTES]
    GOOD = ["", "a", "{+1}", "{+1}{+1}", "a" * MOST_PIECES, "{.5}" * MOST_PIECES]

    def every_refused(self):
        refused = [(text, [-6]) for text in self.TOO_MANY_BYTES + self.TOO_MANY_PIECES]
        refused += [(text, [-5]) for text in NO_ROWS + [b"\x00" * MOST_BYTES]]
        return refused + [(b"a" * (MOST_PIECES + 1) + text, [-5]) for text in NO_ROWS]

    def test_the_segment_is_refused(self):
        for text, refusal in self.every_refused():
            for good in self.GOOD:
                self.assertEqual(fits(text, good), refusal)

    def test_the_target_is_refused(self):
        for text, refusal in self.every_refused():
            for good in self.GOOD:
                self.assertEqual(fits(good, text), refusal)

    def test_the_segment_is_looked_at_for_all_refusals_before_the_target_is(self):
        for segment, refusal in self.every_refused():
            for target in [b"a" * (MOST_BYTES + 1), b"\x00", b"{", b"a" * (MOST_PIECES + 1)]:
                self.assertEqual(fits(segment, target), refusal)

    def test_the_most_pieces_and_bytes(self):
        self.assertEqual(fits("a" * MOST_PIECES, "{{" * MOST_PIECES), [0])
        self.assertEqual(fits("{.1}" + "a" * (MOST_PIECES - 1), "\U0001f600" * (MOST_PIECES - 1) + "{.1}"), [0])


class RefusalsOfLineAndCount(unittest.TestCase):
    NO_DOCUMENTS = [b"\n", b"x\n", b"|", b">a", b"|\x00\n", b"|\xc3\n", b">{\n", b">{x\n", b">{+1}\n", b">{.1}{.1}\n"]
    NO_DOCUMENTS += [b"|" + b"a" * 4097 + b"\n", b">" + b"a" * 4097 + b"\n", b">" + b"a" * 65537 + b"\n"]
    NO_DOCUMENTS += [b"|\n" * 16385, b"\x00" * 100000]

    def test_no_document_alone(self):
        for text in self.NO_DOCUMENTS:
            self.assertEqual(doc(text)[0], -5)
            self.assertEqual(len(doc(text)), 3)
            self.assertEqual(count(text), [-5])
            for k in [0, 1, LARGEST]:
                self.assertEqual(line(k, text), [-5])

    def test_no_document_also_where_the_line_stands_before_the_fault(self):
        for text in self.NO_DOCUMENTS[:-2]:
            head = b"|a\n>b\n|c\n"
            self.assertEqual(doc(head + text)[0], -5)
            self.assertEqual(count(head + text), [-5])
            for k in [0, 1, 2, 3, 4, LARGEST]:
                self.assertEqual(line(k, head + text), [-5])

    def test_more_bytes_than_a_document_has(self):
        text = b"\x00" * 262145
        self.assertEqual([doc(text), line(0, text), count(text)], [[-6], [-6], [-6]])


class EachCallByItself(unittest.TestCase):
    def test_nothing_is_kept_from_one_call_to_the_next(self):
        texts = ["", "a b{+1}", "{-1}{+1}", b"\x00", b"{+", "{.1}{.1}", "{-1}", "{+1}", "a" * 5000, "|a\n>b\n", ">{+1}\n"]
        alone = [every_answer(text) for text in texts]
        for first in texts:
            for number, second in enumerate(texts):
                every_answer(first)
                self.assertEqual(every_answer(second), alone[number])

    def test_an_answer_that_is_changed_changes_no_later_one(self):
        for text in ["", "a", "a" * 5000, b"\x00", b"a" * 70000, "|a\n>b\n"]:
            given = as_bytes(text)
            for call, numbers in CALLS:
                answer = call(*numbers, given)
                before = list(answer)
                answer.append(77)
                answer[0] = 77
                self.assertEqual(call(*numbers, given), before)
            answer = rows.fits(given, given)
            before = list(answer)
            answer[0] = 77
            self.assertEqual(rows.fits(given, given), before)

    def test_no_call_nests_with_its_input(self):
        numbers = list(range(1, 1000))
        nested = "".join([tag("+", n) for n in numbers] + [tag("-", n) for n in reversed(numbers)])
        self.assertEqual(row(nested), [1998])
        self.assertEqual(ask("paired", nested), [1])
        self.assertEqual(row("a" * 4096), [4096])
        self.assertEqual(ask("words", "a " * 2048), [2048])
        self.assertEqual(form(nested), answered(nested))
        self.assertEqual(tags(nested), answered(nested))
        self.assertEqual(cut(0, 1998, nested), answered(nested))
        self.assertEqual(cut(998, 1000, nested), answered("{+999}{-999}"))
        self.assertEqual(unit(1997, nested), [0, 2, 1, 1, 0x31])
        self.assertEqual(fits(nested, nested), [0])
        document = ">" + nested + "\n" + "|\n" * 16383
        self.assertEqual(doc(document), [16384])
        self.assertEqual(line(0, document), [0, 1] + answered(nested)[1:])
        self.assertEqual(count(document), [0, 16384, 1, 1998, 0, 1998, 0])


if __name__ == "__main__":
    unittest.main()
