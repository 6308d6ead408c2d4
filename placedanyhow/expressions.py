"""Parsing expressions and places."""

# The operators of two operands, a row for each line of the grammar, from "expr" to "product".
LAYERS = (
    ("or",),
    ("and",),
    ("==", "!=", "<", "<="),
    ("+", "-"),
    ("*", "/", "mod"),
)
TESTS = 2


def parse_expression(reader):
    """Parses an expression that is not inside another one."""
    reader.begin_expression()
    return parse_layer(reader, 0)


def parse_place(reader):
    """Parses a place that is not inside an expression."""
    reader.begin_expression()
    return parse_item(reader)


def parse_layer(reader, layer):
    """Parses what a line of the grammar describes, by the number of the line's row in LAYERS."""
    if layer == len(LAYERS):
        return parse_factor(reader)
    left = parse_layer(reader, layer + 1)
    while reader.next_text() in LAYERS[layer]:
        reader.count_operator()
        operator = reader.advance()
        left = (operator, left, parse_layer(reader, layer + 1))
        if layer == TESTS:
            return left
    return left


def parse_factor(reader):
    if reader.sees("-"):
        return ("neg", parse_operand(reader))
    if reader.sees("not"):
        return ("not", parse_operand(reader))
    if reader.next_kind() == "number":
        return ("num", reader.take_number())
    if reader.sees("("):
        return parse_enclosed(reader, ")")
    return parse_item(reader)


def parse_operand(reader):
    """Parses an operator of one operand, and returns the operand."""
    reader.count_operator()
    reader.open_level()
    reader.advance()
    operand = parse_factor(reader)
    reader.close_level()
    return operand


def parse_item(reader):
    name = reader.take_name()
    if reader.sees("["):
        return ("item", name, parse_enclosed(reader, "]"))
    return ("name", name)


def parse_enclosed(reader, closing):
    """Parses an expression between the next token, which opens a level, and the closing one."""
    reader.open_level()
    reader.advance()
    inner = parse_layer(reader, 0)
    reader.expect(closing)
    reader.close_level()
    return inner
