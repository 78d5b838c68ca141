"""The calls: what is answered of a row's or a document's text, or what refuses it."""

from ferryrows.pieces import WORD, Fault, find_halves, find_units, only_tags
from ferryrows.pieces import read_characters, read_pieces, rename_numbers, write_pieces

DONE = 0
WRONG_NUMBER = -1
NOT_THERE = -2
NO_SUCH_TEXT = -5
TOO_LARGE = -6

MOST_BYTES = 65536
MOST_PIECES = 4096
MOST_DOCUMENT_BYTES = 262144
MOST_LINES = 16384

LINE_END = 0x0A
RAW_MARK = 0x7C
PARAGRAPH_MARK = 0x3E

# The kinds of a document's faults, in the order in which they are told.
TOO_MANY_LINES = 6
NO_MARK = 1
NOT_ENDED = 5
WRONG_BYTE = 2
LINE_TOO_LARGE = 4
NOT_PAIRED = 3

# What fits answers.
FITTING = 0
NOT_STRAIGHT = 1
OTHER_TAGS = 2
OTHER_HALVES = 3


class LineFault(Exception):
    def __init__(self, kind, place):
        self.kind = kind
        self.place = place


# Either the pieces of a row or the lines of a document, or the whole answer by
# which row or doc refuses the text: the other calls answer the refusal's number
# alone, without what is told of the fault.
class Reading:
    def __init__(self, parts, refusal):
        self.parts = parts
        self.refusal = refusal


# text is what stands behind the line's first byte.
class Line:
    def __init__(self, is_paragraph, text, pieces):
        self.is_paragraph = is_paragraph
        self.text = text
        self.pieces = pieces


# is_barred: whether the call's own -1 holds, which stands ahead of -5.
def read_row(t, is_barred):
    if len(t) > MOST_BYTES:
        return Reading([], [TOO_LARGE])
    if is_barred:
        return Reading([], [WRONG_NUMBER])
    try:
        pieces = read_pieces(t)
    except Fault as fault:
        return Reading([], [NO_SUCH_TEXT, fault.place])
    if len(pieces) > MOST_PIECES:
        return Reading([], [TOO_LARGE])
    return Reading(pieces, [])


def count_pieces(pieces):
    return len(pieces)


def count_characters(pieces):
    return len(pieces) - len(only_tags(pieces))


def count_tags(pieces):
    return len(only_tags(pieces))


def count_words(pieces):
    return len([found for found in find_units(pieces) if found.group == WORD])


def count_units(pieces):
    return len(find_units(pieces))


def tell_straight(pieces):
    return 0 if find_halves(pieces) is None else 1


def tell_paired(pieces):
    return 1 if find_halves(pieces) == ([], []) else 0


def count_left_halves(pieces):
    halves = find_halves(pieces)
    return 0 if halves is None else len(halves[0])


def count_right_halves(pieces):
    halves = find_halves(pieces)
    return 0 if halves is None else len(halves[1])


# In the order of the numbers by which ask is told what to answer.
QUESTIONS = (
    count_pieces,
    count_characters,
    count_tags,
    count_words,
    count_units,
    tell_straight,
    tell_paired,
    count_left_halves,
    count_right_halves,
)

# In the order in which count answers them of all paragraphs together.
COUNTED = (count_pieces, count_characters, count_tags, count_words)


def read_behind_mark(is_paragraph, text, first):
    try:
        return read_pieces(text) if is_paragraph else read_characters(text)
    except Fault as fault:
        raise LineFault(WRONG_BYTE, first + fault.place)


def read_line(t, start, end):
    # Of a line that has no byte this is its 0AH, which is no mark either.
    mark = t[start]
    if mark != RAW_MARK and mark != PARAGRAPH_MARK:
        raise LineFault(NO_MARK, start)
    if end == len(t):
        raise LineFault(NOT_ENDED, end)
    is_paragraph = mark == PARAGRAPH_MARK
    text = t[start + 1:end]
    pieces = read_behind_mark(is_paragraph, text, start + 1)
    # A paragraph of more than 65536 bytes is too large by its pieces as well,
    # none of which has more than six bytes.
    if len(pieces) > MOST_PIECES:
        raise LineFault(LINE_TOO_LARGE, start)
    if is_paragraph and tell_paired(pieces) == 0:
        raise LineFault(NOT_PAIRED, start)
    return Line(is_paragraph, text, pieces)


def find_line_end(t, start):
    end = start
    while end < len(t) and t[end] != LINE_END:
        end += 1
    return end


def read_lines(t):
    lines = []
    start = 0
    while start < len(t):
        if len(lines) == MOST_LINES:
            raise LineFault(TOO_MANY_LINES, start)
        end = find_line_end(t, start)
        lines.append(read_line(t, start, end))
        start = end + 1
    return lines


def read_document(t):
    if len(t) > MOST_DOCUMENT_BYTES:
        return Reading([], [TOO_LARGE])
    try:
        return Reading(read_lines(t), [])
    except LineFault as fault:
        return Reading([], [NO_SUCH_TEXT, fault.kind, fault.place])


def judge_target(segment, target):
    halves = find_halves(target)
    if halves is None:
        return NOT_STRAIGHT
    if sorted(only_tags(segment)) != sorted(only_tags(target)):
        return OTHER_TAGS
    return FITTING if find_halves(segment) == halves else OTHER_HALVES


def with_length(text):
    return [len(text)] + text


def row(t):
    reading = read_row(t, False)
    if len(reading.refusal) > 0:
        return reading.refusal
    return [len(reading.parts)]


def ask(what, t):
    reading = read_row(t, what >= len(QUESTIONS))
    if len(reading.refusal) > 0:
        return reading.refusal[:1]
    answer = QUESTIONS[what]
    return [answer(reading.parts)]


def form(t):
    reading = read_row(t, False)
    if len(reading.refusal) > 0:
        return reading.refusal[:1]
    return [DONE] + with_length(write_pieces(rename_numbers(reading.parts)))


def tags(t):
    reading = read_row(t, False)
    if len(reading.refusal) > 0:
        return reading.refusal[:1]
    return [DONE] + with_length(write_pieces(only_tags(reading.parts)))


def cut(start, to, t):
    reading = read_row(t, start > to)
    if len(reading.refusal) > 0:
        return reading.refusal[:1]
    if to > len(reading.parts):
        return [NOT_THERE]
    return [DONE] + with_length(write_pieces(reading.parts[start:to]))


def unit(k, t):
    reading = read_row(t, False)
    if len(reading.refusal) > 0:
        return reading.refusal[:1]
    units = find_units(reading.parts)
    if k >= len(units):
        return [NOT_THERE]
    found = units[k]
    return [DONE, found.group, found.tag_kind] + with_length(found.text)


def fits(s, t):
    segment = read_row(s, False)
    if len(segment.refusal) > 0:
        return segment.refusal[:1]
    target = read_row(t, False)
    if len(target.refusal) > 0:
        return target.refusal[:1]
    return [judge_target(segment.parts, target.parts)]


def doc(t):
    reading = read_document(t)
    if len(reading.refusal) > 0:
        return reading.refusal
    return [len(reading.parts)]


def line(k, t):
    reading = read_document(t)
    if len(reading.refusal) > 0:
        return reading.refusal[:1]
    if k >= len(reading.parts):
        return [NOT_THERE]
    found = reading.parts[k]
    return [DONE, 1 if found.is_paragraph else 0] + with_length(found.text)


def count(t):
    reading = read_document(t)
    if len(reading.refusal) > 0:
        return reading.refusal[:1]
    paragraphs = [found.pieces for found in reading.parts if found.is_paragraph]
    answer = [DONE, len(reading.parts), len(paragraphs)]
    for tell in COUNTED:
        answer.append(sum([tell(pieces) for pieces in paragraphs]))
    return answer
