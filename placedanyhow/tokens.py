"""The tokens of a source text."""

from placedanyhow.errors import TextError

RESERVED = (
    "and", "array", "call", "channel", "either", "else", "for", "from", "give", "if", "in", "into",
    "main", "mod", "not", "or", "out", "process", "program", "repeat", "skip", "stop", "take", "then",
    "to", "together", "when", "while", "word",
)

# The signs of two characters come first, because the longest sign that matches is taken.
SIGNS = (
    "==", "!=", "<=",
    "{", "}", "(", ")", "[", "]", ";", ",", "=", "<", "+", "-", "*", "/",
)

LETTERS = "abcdefghijklmnopqrstuvwxyzABCDEFGHIJKLMNOPQRSTUVWXYZ"
DIGITS = "0123456789"
LONGEST_NAME = 16
LONGEST_NUMBER = 5
GREATEST_WORD = 65535


def tokenize(text):
    """The list of the tokens (kind, value, line) of a text, with an "end" behind them."""
    found = []
    line = 1
    at = 0
    while at < len(text):
        if text[at] == "\n":
            line += 1
            at += 1
        elif text[at] == " ":
            at += 1
        elif text[at] == "#":
            at = comment_end(text, at)
        else:
            part = part_at(text, at)
            found.append(token_of(part, line))
            at += len(part)
    found.append(("end", "", line))
    return found


def is_reserved(name):
    """Whether a string is a reserved word."""
    return name in RESERVED


def comment_end(text, at):
    end = text.find("\n", at)
    return len(text) if end < 0 else end


def part_at(text, at):
    """The longest run or sign that begins at an index, or the character there."""
    end = at
    while end < len(text) and in_run(text[end]):
        end += 1
    if end > at:
        return text[at:end]
    for sign in SIGNS:
        if text.startswith(sign, at):
            return sign
    return text[at]


def in_run(character):
    return character in LETTERS or character in DIGITS or character == "_"


def token_of(part, line):
    if part in SIGNS:
        return ("sign", part, line)
    if is_reserved(part):
        return ("word", part, line)
    if is_name(part):
        return ("name", part, line)
    if is_number(part):
        return ("number", int(part), line)
    raise TextError(line)


def is_name(part):
    """Whether a part that is not a reserved word is a name."""
    return part[0] in LETTERS and len(part) <= LONGEST_NAME


def is_number(part):
    if part == "0":
        return True
    # The length is tested before the value, because int refuses strings of very many digits.
    if part[0] == "0" or len(part) > LONGEST_NUMBER:
        return False
    return all_digits(part) and int(part) <= GREATEST_WORD


def all_digits(part):
    for character in part:
        if character not in DIGITS:
            return False
    return True
