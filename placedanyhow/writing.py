"""The written form of programs and expressions."""

# The levels of the operators, from the lowest. An operand without an operator has the highest.
LEVELS = {
    "or": 1,
    "and": 2,
    "==": 3, "!=": 3, "<": 3, "<=": 3,
    "+": 4, "-": 4,
    "*": 5, "/": 5, "mod": 5,
    "neg": 6, "not": 6,
}
TEST = 3
ONE_OPERAND = 6
NO_OPERATOR = 7


def write_program(program):
    """The written form of a program."""
    _, name, ins, outs, processes, body = program
    lines = [f"program {name}"]
    write_names(lines, "in", ins)
    write_names(lines, "out", outs)
    for process in processes:
        write_process(lines, process)
    write_block(lines, "", "main ", body)
    lines.append("}")
    return "\n".join(lines) + "\n"


def write_expression(e):
    """The text of an expression."""
    kind = e[0]
    if kind == "num":
        return str(e[1])
    if kind == "name" or kind == "item":
        return write_place(e)
    if kind == "neg":
        return "-" + write_operand(e[1], ONE_OPERAND)
    if kind == "not":
        return "not " + write_operand(e[1], ONE_OPERAND)
    level = LEVELS[kind]
    # A test does not go on behind a second test, so neither of its operands is a bare test.
    left = write_operand(e[1], level + 1 if level == TEST else level)
    right = write_operand(e[2], level + 1)
    return f"{left} {kind} {right}"


def write_operand(e, least):
    """The text of an operand, in parentheses if its level is lower than the least one."""
    text = write_expression(e)
    if LEVELS.get(e[0], NO_OPERATOR) < least:
        return f"({text})"
    return text


def write_place(place):
    if place[0] == "name":
        return place[1]
    return f"{place[1]}[{write_expression(place[2])}]"


def write_names(lines, word, names):
    if names:
        joined = ", ".join(names)
        lines.append(f"{word} {joined};")


def write_process(lines, process):
    _, name, params, body = process
    joined = ", ".join([f"{kind} {param}" for kind, param in params])
    write_block(lines, "", f"process {name}({joined}) ", body)
    lines.append("}")


def write_block(lines, indent, head, block):
    """Writes a block with what stands in front of its brace, without the line that closes it."""
    lines.append(indent + head + "{")
    for declaration in block[1]:
        lines.append(f"{indent}  {write_declaration(declaration)};")
    write_statements(lines, indent, block[2])


def write_declaration(declaration):
    kind, name = declaration[0], declaration[1]
    if kind == "word" or declaration[2] is None:
        return f"{kind} {name}"
    return f"{kind} {name}[{declaration[2]}]"


def write_statements(lines, indent, statements):
    """Writes the statements inside a brace that stands in a line with this indentation."""
    for s in statements:
        write_statement(lines, indent + "  ", s)


def write_statement(lines, indent, s):
    kind = s[0]
    if kind == "block":
        write_block(lines, indent, "", s)
    elif kind == "together":
        lines.append(indent + "together {")
        write_statements(lines, indent, s[1])
    elif kind == "spread":
        write_block(lines, indent, f"together for {s[1]} from {s[2]} to {s[3]} ", s[4])
    elif kind == "either":
        write_rows(lines, indent, s[1])
    elif kind == "if":
        write_if(lines, indent, s)
    elif kind == "repeat":
        write_block(lines, indent, f"repeat {s[1]} while {write_expression(s[2])} ", s[3])
    else:
        lines.append(f"{indent}{write_simple(s)};")
        return
    lines.append(indent + "}")


def write_rows(lines, indent, rows):
    lines.append(indent + "either {")
    inner = indent + "  "
    for guard, channel, place, block in rows:
        when = "" if guard is None else f"when {write_expression(guard)} "
        write_block(lines, inner, f"{when}{write_taking(channel, place)} then ", block)
        lines.append(inner + "}")


def write_if(lines, indent, s):
    _, e, block, other = s
    write_block(lines, indent, f"if {write_expression(e)} ", block)
    if other[1] or other[2]:
        write_block(lines, indent, "} else ", other)


def write_taking(channel, place):
    return f"take {write_place(channel)} into {write_place(place)}"


def write_simple(s):
    """The text of a statement without braces, without the semicolon."""
    kind = s[0]
    if kind == "assign":
        return f"{write_place(s[1])} = {write_expression(s[2])}"
    if kind == "give":
        return f"give {write_expression(s[1])} to {write_place(s[2])}"
    if kind == "take":
        return write_taking(s[1], s[2])
    if kind == "call":
        joined = ", ".join([write_expression(e) for e in s[2]])
        return f"call {s[1]}({joined})"
    return kind
