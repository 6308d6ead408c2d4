"""Drawn programs: any program of the grammar, within the bounds of point 3.4."""

OPERATORS = ("or", "and", "==", "!=", "<", "<=", "+", "-", "*", "/", "mod")
NAMES = ("x", "y", "total", "a_1", "Row", "abcdefghijklmnop")


def draw_expression(rng, depth):
    if depth == 0 or rng.random() < 0.25:
        return rng.choice([("num", rng.choice([0, 1, 7, 65535])), ("name", rng.choice(NAMES))])
    kind = rng.randrange(8)
    if kind == 0:
        return ("item", rng.choice(NAMES), draw_expression(rng, depth - 1))
    if kind == 1:
        return (rng.choice(("neg", "not")), draw_expression(rng, depth - 1))
    return (rng.choice(OPERATORS), draw_expression(rng, depth - 1), draw_expression(rng, depth - 1))


def draw_place(rng, depth):
    if rng.random() < 0.6:
        return ("name", rng.choice(NAMES))
    return ("item", rng.choice(NAMES), draw_expression(rng, depth))


def draw_declaration(rng):
    kind = rng.choice(("word", "array", "channel"))
    name = rng.choice(NAMES)
    if kind == "word":
        return (kind, name)
    if kind == "array":
        return (kind, name, rng.choice((0, 1, 8, 9)))
    return (kind, name, rng.choice((None, 0, 1, 8, 65535)))


def draw_block(rng, braces):
    """Draws a block that opens at most this number of braces, from 1 on."""
    declarations = [draw_declaration(rng) for _ in range(rng.choice((0, 0, 1, 2)))]
    statements = [draw_statement(rng, braces - 1) for _ in range(rng.choice((0, 1, 1, 2, 3)))]
    return ("block", declarations, statements)


def draw_statement(rng, braces):
    simple = ("skip", "stop", "assign", "give", "take", "call")
    nested = ("block", "together", "spread", "if", "repeat")
    if braces == 0:
        kind = rng.choice(simple)
    elif braces == 1:
        kind = rng.choice(simple + nested)
    else:
        kind = rng.choice(simple + nested + ("either", "either"))
    if kind in ("skip", "stop"):
        return (kind,)
    if kind == "assign":
        return (kind, draw_place(rng, 2), draw_expression(rng, 3))
    if kind == "give":
        return (kind, draw_expression(rng, 3), draw_place(rng, 2))
    if kind == "take":
        return (kind, draw_place(rng, 2), draw_place(rng, 2))
    if kind == "call":
        return (kind, rng.choice(NAMES), [draw_expression(rng, 3) for _ in range(rng.randrange(4))])
    if kind == "block":
        return draw_block(rng, braces)
    if kind == "together":
        return (kind, [draw_statement(rng, braces - 1) for _ in range(rng.randrange(4))])
    if kind == "spread":
        first, last = rng.choice((0, 3, 65535)), rng.choice((0, 5))
        return (kind, rng.choice(NAMES), first, last, draw_block(rng, braces))
    if kind == "either":
        return (kind, [draw_row(rng, braces - 1) for _ in range(rng.randrange(3))])
    if kind == "repeat":
        return (kind, rng.choice((0, 9, 65535)), draw_expression(rng, 2), draw_block(rng, braces))
    other = draw_block(rng, braces) if rng.random() < 0.5 else ("block", [], [])
    return ("if", draw_expression(rng, 3), draw_block(rng, braces), other)


def draw_row(rng, braces):
    guard = draw_expression(rng, 2) if rng.random() < 0.5 else None
    return (guard, draw_place(rng, 1), draw_place(rng, 1), draw_block(rng, braces))


def draw_program(rng):
    ins = [rng.choice(NAMES) for _ in range(rng.randrange(3))]
    outs = [rng.choice(NAMES) for _ in range(rng.randrange(3))]
    processes = [draw_process(rng) for _ in range(rng.randrange(3))]
    return ("program", rng.choice(NAMES), ins, outs, processes, draw_block(rng, 4))


def draw_process(rng):
    params = [(rng.choice(("word", "channel")), rng.choice(NAMES)) for _ in range(rng.randrange(4))]
    return ("process", rng.choice(NAMES), params, draw_block(rng, 3))
