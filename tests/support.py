"""How the tests call the program, and what they hold every call to."""

import re

from ferryrows import rows

LARGEST = 4294967295

SIGN_SPANS = [
    (0x21, 0x2F), (0x3A, 0x40), (0x5B, 0x60), (0x7B, 0x7E), (0xA1, 0xBF),
    (0xD7, 0xD7), (0xF7, 0xF7), (0x2010, 0x206F), (0x3000, 0x303F),
]
# The first and the last of each span and their neighbours, as far as they are characters but no blanks.
SIGN_EDGES = [0x21, 0x2F, 0x30, 0x39, 0x3A, 0x40, 0x41, 0x5A, 0x5B, 0x60, 0x61, 0x7A, 0x7B, 0x7E, 0xA0, 0xA1, 0xBF]
SIGN_EDGES += [0xC0, 0xD6, 0xD7, 0xD8, 0xF6, 0xF7, 0xF8, 0x200F, 0x2010, 0x206F, 0x2070, 0x2FFF, 0x3000, 0x303F, 0x3040]
SOME_CHARACTERS = ["a", "B", "7", " ", ".", "}", "{{", "\u00a0", "\u00e9", "\u00bf", "\u2010", "\u20ac", "\U0001f600"]

WHATS = {
    "pieces": 0,
    "characters": 1,
    "tags": 2,
    "words": 3,
    "units": 4,
    "straight": 5,
    "paired": 6,
    "lefts": 7,
    "rights": 8,
}


def as_bytes(text):
    """A list of bytes: of a text in UTF-8, or of bytes as they are."""
    return list(text.encode("utf-8") if isinstance(text, str) else text)


def called(function, *arguments):
    """The function's answer, once it is sure that the call kept to the interface."""
    copies = [list(a) if isinstance(a, list) else a for a in arguments]
    answer = function(*arguments)
    if list(arguments) != copies:
        raise AssertionError("what was handed in has changed")
    if type(answer) is not list or any(type(number) is not int for number in answer):
        raise AssertionError(f"not a list of whole numbers: {answer!r}")
    if any(answer is a for a in arguments):
        raise AssertionError("what was handed in was given back")
    return answer


def answered(text):
    """What is answered of a text that is told: 0, how many bytes, and they."""
    return [0, len(as_bytes(text)), *as_bytes(text)]


def is_character(code):
    """Whether the document counts a number among the characters."""
    if code < 0x20 or 0x7F <= code <= 0x9F or 0xD800 <= code <= 0xDFFF:
        return False
    return code & 0xFFFF not in (0xFFFE, 0xFFFF)


def is_sign(code):
    return any(low <= code <= high for low, high in SIGN_SPANS)


def pieces_of(text):
    """The pieces of a row, each as its text; the text must be a row's."""
    return re.findall(r"\{\{|\{[-+.][0-9]+\}|[^{]", text)


def tags_in(text):
    """The tags of a row, each as its text, in order."""
    return [piece for piece in pieces_of(text) if piece[0] == "{" and piece != "{{"]


def tag(kind, number):
    return f"{{{kind}{number}}}"


def halves_of(tags):
    """The numbers of the left and the right halves, or None of a row that isn't straight.

    tags: pairs of + - . and a number. Told by striking out an open and its close that stand side by side.
    """
    if len(set(tags)) < len(tags):
        return None
    for kind, number in tags:
        if kind == "." and (("+", number) in tags or ("-", number) in tags):
            return None
        if kind == "+" and ("-", number) in tags[:tags.index((kind, number))]:
            return None
    rest = [pair for pair in tags if pair[0] != "."]
    place = 0
    while place + 1 < len(rest):
        if rest[place][0] == "+" and rest[place + 1] == ("-", rest[place][1]):
            del rest[place:place + 2]
            place = 0
        else:
            place += 1
    if not re.fullmatch("-*[+]*", "".join(kind for kind, number in rest)):
        return None
    return ([number for kind, number in rest if kind == "-"], [number for kind, number in rest if kind == "+"])


def drawn_paired_row(chosen, length):
    """The pieces of a paired row, each as its text, drawn from a given source."""
    numbers = chosen.sample(range(1, 1000), length)
    pieces = []
    pile = []
    for number in numbers:
        turn = chosen.randrange(6)
        if turn == 0:
            pile.append(number)
            pieces.append(tag("+", number))
        elif turn == 1 and pile:
            pieces.append(tag("-", pile.pop()))
        elif turn == 2:
            pieces.append(tag(".", number))
        else:
            pieces.append(chosen.choice(SOME_CHARACTERS))
    return pieces + [tag("-", number) for number in reversed(pile)]


def drawn_document(chosen):
    """A document's text of some raw lines and paragraphs, drawn from a given source."""
    lines = []
    for turn in range(chosen.randrange(8)):
        if chosen.randrange(3) == 0:
            lines.append("|" + "".join(chosen.choices("a B.{}\u00e9\u20ac\U0001f600", k=chosen.randrange(9))))
        else:
            lines.append(">" + "".join(drawn_paired_row(chosen, chosen.randrange(15))))
    return "".join(text + "\n" for text in lines)


def row(text):
    return called(rows.row, as_bytes(text))


def ask(what, text):
    return called(rows.ask, WHATS.get(what, what), as_bytes(text))


def asked(text):
    """What ask answers for each what from 0 to 8, in order."""
    return [ask(what, text) for what in range(9)]


def form(text):
    return called(rows.form, as_bytes(text))


def tags(text):
    return called(rows.tags, as_bytes(text))


def cut(start, to, text):
    return called(rows.cut, start, to, as_bytes(text))


def unit(k, text):
    return called(rows.unit, k, as_bytes(text))


def units_of(text):
    """What unit answers for k from 0 on, up to the first k that is refused."""
    answers = [unit(0, text)]
    while answers[-1][0] == 0:
        answers.append(unit(len(answers), text))
    if answers.pop() != [-2]:
        raise AssertionError(f"a unit is refused otherwise than by -2: {text!r}")
    return answers


def fits(segment, target):
    return called(rows.fits, as_bytes(segment), as_bytes(target))


def doc(text):
    return called(rows.doc, as_bytes(text))


def line(k, text):
    return called(rows.line, k, as_bytes(text))


def count(text):
    return called(rows.count, as_bytes(text))


def lines_of(text):
    """A document's lines, as line tells them: whether each is a paragraph, and its bytes."""
    told = []
    for k in range(doc(text)[0]):
        answer = line(k, text)
        if answer[0] != 0 or answer[1] not in (0, 1) or answer[2] != len(answer) - 3:
            raise AssertionError(f"no answer of line: {answer!r}")
        told.append((answer[1] == 1, bytes(answer[3:])))
    return told


def drawn_target(chosen, segment):
    """A target that fits a straight segment: its tags in an order that fits, with other characters."""
    drawn = tags_in(segment)
    for turn in range(20):
        other = chosen.sample(drawn, len(drawn))
        if fits(segment, "".join(other)) == [0]:
            drawn = other
            break
    return "".join(chosen.choice(SOME_CHARACTERS) + piece for piece in drawn) + chosen.choice(SOME_CHARACTERS)
