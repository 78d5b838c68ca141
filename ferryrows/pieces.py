"""Pieces, characters and tags: read from texts, judged, written as texts."""

# A piece is a tuple of its kind and its number. A tag's kind is the byte that
# stands for it in the text, so that reading needs no table of kinds.
CHARACTER = 0
OPENING = 0x2B
CLOSING = 0x2D
ALONE = 0x2E

# The groups of units, by the numbers that tell them in an answer.
WORD = 0
SIGN = 1
TAG = 2

BLANK = 0x20
NOUGHT = 0x30
ONE = 0x31
NINE = 0x39
LEFT_BRACE = 0x7B
RIGHT_BRACE = 0x7D

# Below every byte, so that the end of a text lies outside every span.
NO_BYTE = -1

TAIL_BYTES = (0x80, 0xBF)

# Behind these first bytes not every tail byte goes on: C2 would give 80H to
# 9FH, E0 and F0 overlong forms, ED D800H to DFFFH, F4 numbers past 10FFFFH.
SECOND_BYTES = {
    0xC2: (0xA0, 0xBF),
    0xE0: (0xA0, 0xBF),
    0xED: (0x80, 0x9F),
    0xF0: (0x90, 0xBF),
    0xF4: (0x80, 0x8F),
}

SIGNS = (
    (0x21, 0x2F),
    (0x3A, 0x40),
    (0x5B, 0x60),
    (0x7B, 0x7E),
    (0xA1, 0xBF),
    (0xD7, 0xD7),
    (0xF7, 0xF7),
    (0x2010, 0x206F),
    (0x3000, 0x303F),
)


class Fault(Exception):
    def __init__(self, place):
        self.place = place


class Scan:
    def __init__(self, t):
        self.t = t
        self.at = 0

    def peek(self):
        return self.t[self.at] if self.at < len(self.t) else NO_BYTE

    # Whoever takes a byte names just the bytes with which some text of its
    # sort goes on; so the first one that can't be taken is the fault.
    def take(self, low, high):
        byte = self.peek()
        if not low <= byte <= high:
            raise Fault(self.at)
        self.at += 1
        return byte


def tail_length(first):
    if first < 0xE0:
        return 1
    return 2 if first < 0xF0 else 3


def with_tail_byte(code, byte):
    return code * 64 + byte % 64


def take_code(scan):
    if scan.peek() < 0x80:
        return scan.take(0x20, 0x7E)
    first = scan.take(0xC2, 0xF4)
    tail = tail_length(first)
    span = SECOND_BYTES.get(first, TAIL_BYTES)
    code = with_tail_byte(first & (0x3F >> tail), scan.take(span[0], span[1]))
    for step in range(1, tail):
        # Only before a last byte can ten set bits stand here; BE and BF would
        # then give low 16 bits of FFFEH and FFFFH.
        high = 0xBD if code % 0x400 == 0x3FF else 0xBF
        code = with_tail_byte(code, scan.take(0x80, high))
    return code


def take_character(scan):
    return (CHARACTER, take_code(scan))


def take_number(scan):
    number = scan.take(ONE, NINE) - NOUGHT
    while number < 100 and NOUGHT <= scan.peek() <= NINE:
        number = number * 10 + scan.take(NOUGHT, NINE) - NOUGHT
    return number


def take_tag(scan):
    kind = scan.peek()
    if kind not in (OPENING, CLOSING, ALONE):
        raise Fault(scan.at)
    scan.take(kind, kind)
    number = take_number(scan)
    scan.take(RIGHT_BRACE, RIGHT_BRACE)
    return (kind, number)


def take_piece(scan):
    if scan.peek() != LEFT_BRACE:
        return take_character(scan)
    scan.take(LEFT_BRACE, LEFT_BRACE)
    if scan.peek() == LEFT_BRACE:
        return take_character(scan)
    return take_tag(scan)


def read_each(t, take_one):
    scan = Scan(t)
    found = []
    while scan.peek() != NO_BYTE:
        found.append(take_one(scan))
    return found


def read_pieces(t):
    return read_each(t, take_piece)


def read_characters(t):
    return read_each(t, take_character)


def tail_byte(code):
    return 0x80 + code % 64


def write_character(code):
    if code < 0x80:
        return [code]
    if code < 0x800:
        return [0xC0 + code // 64, tail_byte(code)]
    if code < 0x10000:
        return [0xE0 + code // 4096, tail_byte(code // 64), tail_byte(code)]
    return [0xF0 + code // 262144, tail_byte(code // 4096), tail_byte(code // 64), tail_byte(code)]


def write_number(number):
    return [ord(digit) for digit in str(number)]


def write_piece(kind, number):
    if kind != CHARACTER:
        return [LEFT_BRACE, kind] + write_number(number) + [RIGHT_BRACE]
    if number == LEFT_BRACE:
        return [LEFT_BRACE, LEFT_BRACE]
    return write_character(number)


def write_pieces(pieces):
    text = []
    for kind, number in pieces:
        text.extend(write_piece(kind, number))
    return text


def only_tags(pieces):
    return [(kind, number) for kind, number in pieces if kind != CHARACTER]


# Each number's place, from 1, in the order in which the numbers first stand.
def find_places(pieces):
    places = {}
    for kind, number in only_tags(pieces):
        if number not in places:
            places[number] = len(places) + 1
    return places


def rename_numbers(pieces):
    places = find_places(pieces)
    return [(kind, number if kind == CHARACTER else places[number]) for kind, number in pieces]


# The left and the right halves' numbers, or None of a row that isn't straight.
def find_halves(pieces):
    lefts = []
    pile = []
    last_kinds = {}
    for kind, number in only_tags(pieces):
        # A number may stand again only as the close of its open.
        if number in last_kinds and (last_kinds[number] != OPENING or kind != CLOSING):
            return None
        last_kinds[number] = kind
        if kind == OPENING:
            pile.append(number)
        elif kind == CLOSING and len(pile) == 0:
            lefts.append(number)
        elif kind == CLOSING and pile.pop() != number:
            return None
    return (lefts, pile)


def is_sign(code):
    for low, high in SIGNS:
        if low <= code <= high:
            return True
    return False


def is_of_word(kind, number):
    return kind == CHARACTER and number != BLANK and not is_sign(number)


# Its text is its characters in UTF-8, or, of a tag, its number's place.
class Unit:
    def __init__(self, group, tag_kind, text):
        self.group = group
        self.tag_kind = tag_kind
        self.text = text


def make_unit(kind, number):
    if kind != CHARACTER:
        return Unit(TAG, (OPENING, CLOSING, ALONE).index(kind), write_number(number))
    return Unit(SIGN if is_sign(number) else WORD, 0, write_character(number))


# Found in the form, where a tag's number is its place: so the units hang on no
# number that stands in the text.
def find_units(pieces):
    units = []
    was_of_word = False
    for kind, number in rename_numbers(pieces):
        now_of_word = is_of_word(kind, number)
        if now_of_word and was_of_word:
            units[-1].text.extend(write_character(number))
        elif kind != CHARACTER or number != BLANK:
            units.append(make_unit(kind, number))
        was_of_word = now_of_word
    return units
