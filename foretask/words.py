"""Cutting a program text into tokens."""

from foretask.bounds import LITERAL_CHARACTERS, NAME_CHARACTERS, NUMBER_DIGITS, TEXT_CHARACTERS
from foretask.errors import TextFault

KEYWORDS = (
    "record", "proc", "var", "if", "else", "while", "for", "to", "return", "throw", "try", "catch", "print",
    "read", "break", "ahead", "none", "true", "false", "and", "or", "not", "mod", "new", "array", "size",
)
LONG_SIGNS = ("<=", ">=", "==", "!=")
SHORT_SIGNS = ("(", ")", "{", "}", "[", "]", ",", ";", ".", "=", "+", "-", "*", "/", "&", "<", ">")
ESCAPES = {'"': '"', "\\": "\\", "n": "\n"}


class Cutter:
    """A text that is being cut: the place reached in it, and the tokens before that place."""

    def __init__(self, text):
        self.text = text
        self.at = 0
        self.line = 1
        self.line_start = 0
        self.row = []

    def column_of(self, at):
        return at - self.line_start + 1

    def put(self, kind, value, end):
        """Adds the token that stands from here up to the place end."""
        self.row.append((kind, value, self.line, self.column_of(self.at)))
        self.at = end

    def fault(self, at, reason):
        raise TextFault(self.line, self.column_of(at), reason)


def tokens(text):
    """Returns the tuple of the tokens of a program text, the end included."""
    if len(text) > TEXT_CHARACTERS:
        raise TextFault(1, 1, "text too long")
    cutter = Cutter(text)
    while cutter.at < len(text):
        cut(cutter)
    cutter.put("end", "", cutter.at)
    return tuple(cutter.row)


def cut(cutter):
    """Cuts one token off, or passes what separates tokens."""
    first = cutter.text[cutter.at]
    if first == "\n":
        cutter.at += 1
        cutter.line += 1
        cutter.line_start = cutter.at
    elif first == " ":
        cutter.at += 1
    elif first == "#":
        pass_remark(cutter)
    elif is_letter(first):
        cut_name(cutter)
    elif is_digit(first):
        cut_number(cutter)
    elif first == '"':
        cut_literal(cutter)
    else:
        cut_sign(cutter)


def is_letter(character):
    return "a" <= character <= "z" or "A" <= character <= "Z"


def is_digit(character):
    return "0" <= character <= "9"


def is_of_name(character):
    return is_letter(character) or is_digit(character) or character == "_"


def pass_remark(cutter):
    end = cutter.text.find("\n", cutter.at)
    cutter.at = len(cutter.text) if end < 0 else end


def cut_name(cutter):
    text = cutter.text
    end = cutter.at
    while end < len(text) and is_of_name(text[end]):
        end += 1
    name = text[cutter.at:end]
    if len(name) > NAME_CHARACTERS:
        cutter.fault(cutter.at, "name too long")
    cutter.put("word" if name in KEYWORDS else "name", name, end)


def cut_number(cutter):
    text = cutter.text
    end = cutter.at
    while end < len(text) and is_digit(text[end]):
        end += 1
    if end - cutter.at > NUMBER_DIGITS:
        cutter.fault(cutter.at, "number too long")
    if end < len(text) and is_of_name(text[end]):
        cutter.fault(end, "number ends here")
    cutter.put("number", int(text[cutter.at:end]), end)


def cut_literal(cutter):
    meant = []
    at = cutter.at + 1
    while character_in(cutter, at) != '"':
        if cutter.text[at] == "\\":
            meant.append(escaped(cutter, at))
            at += 2
        else:
            meant.append(cutter.text[at])
            at += 1
    if len(meant) > LITERAL_CHARACTERS:
        cutter.fault(cutter.at, "string too long")
    cutter.put("text", "".join(meant), at + 1)


def character_in(cutter, at):
    """Returns the character at a place inside a string literal, which must not end its line there."""
    if at >= len(cutter.text) or cutter.text[at] == "\n":
        cutter.fault(at, "string not closed")
    return cutter.text[at]


def escaped(cutter, at):
    """Returns the character that the escape means whose backslash stands at this place."""
    letter = character_in(cutter, at + 1)
    if letter not in ESCAPES:
        cutter.fault(at, "unknown escape")
    return ESCAPES[letter]


def cut_sign(cutter):
    at = cutter.at
    pair = cutter.text[at:at + 2]
    if pair in LONG_SIGNS:
        cutter.put("sign", pair, at + 2)
    elif cutter.text[at] in SHORT_SIGNS:
        cutter.put("sign", cutter.text[at], at + 1)
    else:
        cutter.fault(at, "unknown character")
