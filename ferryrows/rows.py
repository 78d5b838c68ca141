"""The calls: what is answered of a row's text, or the number that refuses it."""

from ferryrows.pieces import WORD, Fault, find_halves, find_units
from ferryrows.pieces import only_tags, read_pieces, rename_numbers, write_pieces

DONE = 0
WRONG_NUMBER = -1
NOT_THERE = -2
NO_ROW = -5
TOO_LARGE = -6

MOST_BYTES = 65536
MOST_PIECES = 4096


# Either the pieces of a row, or the whole answer by which row refuses it: the
# other calls answer the refusal's number alone, without the fault's place.
class Reading:
    def __init__(self, pieces, refusal):
        self.pieces = pieces
        self.refusal = refusal


# is_barred: whether the call's own -1 holds, which stands ahead of -5.
def read_row(t, is_barred):
    if len(t) > MOST_BYTES:
        return Reading([], [TOO_LARGE])
    if is_barred:
        return Reading([], [WRONG_NUMBER])
    try:
        pieces = read_pieces(t)
    except Fault as fault:
        return Reading([], [NO_ROW, fault.place])
    if len(pieces) > MOST_PIECES:
        return Reading([], [TOO_LARGE])
    return Reading(pieces, [])


def count_pieces(pieces):
    return len(pieces)


def count_characters(pieces):
    return len(pieces) - len(only_tags(pieces))


def count_tags(pieces):
    return len(only_tags(pieces))


def count_words(pieces):
    return len([found for found in find_units(pieces) if found.group == WORD])


def count_units(pieces):
    return len(find_units(pieces))


def tell_straight(pieces):
    return 0 if find_halves(pieces) is None else 1


def tell_paired(pieces):
    return 1 if find_halves(pieces) == ([], []) else 0


def count_left_halves(pieces):
    halves = find_halves(pieces)
    return 0 if halves is None else len(halves[0])


def count_right_halves(pieces):
    halves = find_halves(pieces)
    return 0 if halves is None else len(halves[1])


# In the order of the numbers by which ask is told what to answer.
QUESTIONS = (
    count_pieces,
    count_characters,
    count_tags,
    count_words,
    count_units,
    tell_straight,
    tell_paired,
    count_left_halves,
    count_right_halves,
)


def row(t):
    reading = read_row(t, False)
    if len(reading.refusal) > 0:
        return reading.refusal
    return [len(reading.pieces)]


def ask(what, t):
    reading = read_row(t, what >= len(QUESTIONS))
    if len(reading.refusal) > 0:
        return reading.refusal[:1]
    answer = QUESTIONS[what]
    return [answer(reading.pieces)]


def with_length(text):
    return [len(text)] + text


def form(t):
    reading = read_row(t, False)
    if len(reading.refusal) > 0:
        return reading.refusal[:1]
    return [DONE] + with_length(write_pieces(rename_numbers(reading.pieces)))


def tags(t):
    reading = read_row(t, False)
    if len(reading.refusal) > 0:
        return reading.refusal[:1]
    return [DONE] + with_length(write_pieces(only_tags(reading.pieces)))


def cut(start, to, t):
    reading = read_row(t, start > to)
    if len(reading.refusal) > 0:
        return reading.refusal[:1]
    if to > len(reading.pieces):
        return [NOT_THERE]
    return [DONE] + with_length(write_pieces(reading.pieces[start:to]))


def unit(k, t):
    reading = read_row(t, False)
    if len(reading.refusal) > 0:
        return reading.refusal[:1]
    units = find_units(reading.pieces)
    if k >= len(units):
        return [NOT_THERE]
    found = units[k]
    return [DONE, found.group, found.tag_kind] + with_length(found.text)
