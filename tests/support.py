"""How the tests call the program, and what they hold every call to."""

import re

from ferryrows import rows

WHATS = {
    "pieces": 0,
    "characters": 1,
    "tags": 2,
    "words": 3,
    "units": 4,
    "straight": 5,
    "paired": 6,
    "lefts": 7,
    "rights": 8,
}


def as_bytes(text):
    """A list of bytes: of a text in UTF-8, or of bytes as they are."""
    return list(text.encode("utf-8") if isinstance(text, str) else text)


def called(function, *arguments):
    """The function's answer, once it is sure that the call kept to the interface."""
    copies = [list(a) if isinstance(a, list) else a for a in arguments]
    answer = function(*arguments)
    if list(arguments) != copies:
        raise AssertionError("what was handed in has changed")
    if type(answer) is not list or any(type(number) is not int for number in answer):
        raise AssertionError(f"not a list of whole numbers: {answer!r}")
    if any(answer is a for a in arguments):
        raise AssertionError("what was handed in was given back")
    return answer


def answered(text):
    """What is answered of a text that is told: 0, how many bytes, and they."""
    return [0, len(as_bytes(text)), *as_bytes(text)]


def is_character(code):
    """Whether the document counts a number among the characters."""
    if code < 0x20 or 0x7F <= code <= 0x9F or 0xD800 <= code <= 0xDFFF:
        return False
    return code & 0xFFFF not in (0xFFFE, 0xFFFF)


def pieces_of(text):
    """The pieces of a row, each as its text; the text must be a row's."""
    return re.findall(r"\{\{|\{[-+.][0-9]+\}|[^{]", text)


def tag(kind, number):
    return f"{{{kind}{number}}}"


def row(text):
    return called(rows.row, as_bytes(text))


def ask(what, text):
    return called(rows.ask, WHATS.get(what, what), as_bytes(text))


def asked(text):
    """What ask answers for each what from 0 to 8, in order."""
    return [ask(what, text) for what in range(9)]


def form(text):
    return called(rows.form, as_bytes(text))


def tags(text):
    return called(rows.tags, as_bytes(text))
