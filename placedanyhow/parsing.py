"""Parsing programs."""

from placedanyhow.expressions import parse_expression, parse_place
from placedanyhow.reader import Reader
from placedanyhow.tokens import tokenize


def parse_program(text):
    """The program of a text. Raises TextError with the line of the first token that is wrong."""
    reader = Reader(tokenize(text))
    reader.expect("program")
    name = reader.take_name()
    ins = parse_names(reader, "in")
    outs = parse_names(reader, "out")
    processes = []
    while reader.accept("process"):
        processes.append(parse_process(reader))
    reader.expect("main")
    body = parse_block(reader)
    reader.take_kind("end")
    return ("program", name, ins, outs, processes, body)


def parse_names(reader, word):
    """Parses the names behind a word, or nothing if the word is not there."""
    found = []
    if reader.accept(word):
        found.append(reader.take_name())
        while reader.accept(","):
            found.append(reader.take_name())
        reader.expect(";")
    return found


def parse_process(reader):
    """Parses a process, whose first word is already taken."""
    name = reader.take_name()
    params = parse_listed(reader, parse_param)
    return ("process", name, params, parse_block(reader))


def parse_param(reader):
    if not reader.sees("word") and not reader.sees("channel"):
        reader.refuse()
    kind = reader.advance()
    return (kind, reader.take_name())


def parse_listed(reader, parse_one):
    """Parses a list in parentheses, each part of which is parsed by a function."""
    found = []
    reader.expect("(")
    if reader.accept(")"):
        return found
    found.append(parse_one(reader))
    while reader.accept(","):
        found.append(parse_one(reader))
    reader.expect(")")
    return found


def parse_block(reader):
    reader.open_brace()
    declarations = []
    while reader.next_text() in DECLARATIONS:
        action = DECLARATIONS[reader.advance()]
        declarations.append(action(reader))
        reader.expect(";")
    return ("block", declarations, parse_rest(reader, parse_statement))


def parse_rest(reader, parse_one):
    """Parses parts by a function up to the "}" that closes the innermost brace."""
    found = []
    while not reader.closes_brace():
        found.append(parse_one(reader))
    return found


def parse_word(reader):
    return ("word", reader.take_name())


def parse_array(reader):
    name = reader.take_name()
    return ("array", name, parse_size(reader))


def parse_channel(reader):
    name = reader.take_name()
    return ("channel", name, parse_size(reader) if reader.sees("[") else None)


def parse_size(reader):
    reader.expect("[")
    size = reader.take_number()
    reader.expect("]")
    return size


def parse_statement(reader):
    if reader.sees("{"):
        return parse_block(reader)
    if reader.next_kind() == "name":
        return parse_assign(reader)
    if reader.next_text() not in STATEMENTS:
        reader.refuse()
    action = STATEMENTS[reader.advance()]
    return action(reader)


def parse_assign(reader):
    place = parse_place(reader)
    reader.expect("=")
    e = parse_expression(reader)
    reader.expect(";")
    return ("assign", place, e)


# The functions of STATEMENTS parse a statement whose first word is already taken.

def parse_skip(reader):
    reader.expect(";")
    return ("skip",)


def parse_stop(reader):
    reader.expect(";")
    return ("stop",)


def parse_give(reader):
    e = parse_expression(reader)
    reader.expect("to")
    place = parse_place(reader)
    reader.expect(";")
    return ("give", e, place)


def parse_take(reader):
    channel, place = parse_taking(reader)
    reader.expect(";")
    return ("take", channel, place)


def parse_taking(reader):
    """Parses the channel and the target of a "take" statement or row."""
    channel = parse_place(reader)
    reader.expect("into")
    return (channel, parse_place(reader))


def parse_together(reader):
    if reader.accept("for"):
        return parse_spread(reader)
    reader.open_brace()
    return ("together", parse_rest(reader, parse_statement))


def parse_spread(reader):
    name = reader.take_name()
    reader.expect("from")
    first = reader.take_number()
    reader.expect("to")
    last = reader.take_number()
    return ("spread", name, first, last, parse_block(reader))


def parse_either(reader):
    reader.open_brace()
    return ("either", parse_rest(reader, parse_row))


def parse_row(reader):
    guard = parse_expression(reader) if reader.accept("when") else None
    reader.expect("take")
    channel, place = parse_taking(reader)
    reader.expect("then")
    return (guard, channel, place, parse_block(reader))


def parse_if(reader):
    e = parse_expression(reader)
    block = parse_block(reader)
    other = parse_block(reader) if reader.accept("else") else ("block", [], [])
    return ("if", e, block, other)


def parse_repeat(reader):
    many = reader.take_number()
    reader.expect("while")
    e = parse_expression(reader)
    return ("repeat", many, e, parse_block(reader))


def parse_call(reader):
    name = reader.take_name()
    arguments = parse_listed(reader, parse_expression)
    reader.expect(";")
    return ("call", name, arguments)


DECLARATIONS = {"word": parse_word, "array": parse_array, "channel": parse_channel}

STATEMENTS = {
    "skip": parse_skip,
    "stop": parse_stop,
    "give": parse_give,
    "take": parse_take,
    "together": parse_together,
    "either": parse_either,
    "if": parse_if,
    "repeat": parse_repeat,
    "call": parse_call,
}
