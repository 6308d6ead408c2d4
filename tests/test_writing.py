"""Points 4.1 to 4.4: the written form."""

import random
import unittest

from placedanyhow.parsing import parse_program
from placedanyhow.writing import write_expression, write_program
from tests.drawing import draw_expression, draw_program
from tests.support import frozen, parsed_expression

X = ("name", "x")
Y = ("name", "y")
Z = ("name", "z")
ONE = ("num", 1)
EMPTY = ("block", [], [])
SKIPS = ("block", [], [("skip",)])

LINES = (("or",), ("and",), ("==", "!=", "<", "<="), ("+", "-"), ("*", "/", "mod"))
TWO = [operator for line in LINES for operator in line]


def written(*statements):
    """The lines of statements, as they stand inside "main"."""
    text = write_program(("program", "p", [], [], [], ("block", [], list(statements))))
    lines = text.split("\n")
    assert lines[:2] == ["program p", "main {"] and lines[-2:] == ["}", ""]
    for line in lines[2:-2]:
        assert line.startswith("  ")
    return [line[2:] for line in lines[2:-2]]


class ProgramTest(unittest.TestCase):
    def test_the_examples(self):
        e = ("-", ONE, ("-", ("neg", ("+", X, ("num", 2))), ("item", "a", ("num", 0))))
        self.assertEqual(write_expression(e), "1 - (-(x + 2) - a[0])")
        body = ("block", [("word", "x")], [("if", X, SKIPS, EMPTY)])
        self.assertEqual(
            write_program(("program", "p", [], ["b"], [], body)),
            "program p\nout b;\nmain {\n  word x;\n  if x {\n    skip;\n  }\n}\n",
        )

    def test_a_program_of_nothing(self):
        self.assertEqual(
            write_program(("program", "p", [], [], [], EMPTY)), "program p\nmain {\n}\n"
        )

    def test_ins_outs_and_processes(self):
        processes = [
            ("process", "q", [], EMPTY),
            ("process", "r", [("word", "x")], SKIPS),
            ("process", "s", [("word", "x"), ("channel", "c"), ("word", "y")],
             ("block", [("word", "z")], [("skip",)])),
        ]
        self.assertEqual(
            write_program(("program", "p", ["a", "b"], ["c", "d", "e"], processes, EMPTY)),
            "program p\nin a, b;\nout c, d, e;\nprocess q() {\n}\nprocess r(word x) {\n  skip;\n}\n"
            "process s(word x, channel c, word y) {\n  word z;\n  skip;\n}\nmain {\n}\n",
        )
        self.assertEqual(
            write_program(("program", "p", ["a"], [], [], EMPTY)),
            "program p\nin a;\nmain {\n}\n",
        )

    def test_a_whole_program(self):
        text = (
            "program all\n"
            "in a;\n"
            "out b;\n"
            "process q(word x, channel c) {\n"
            "  give x * 2 to c;\n"
            "}\n"
            "main {\n"
            "  word x;\n"
            "  array r[3];\n"
            "  channel c;\n"
            "  channel d[2];\n"
            "  together {\n"
            "    call q(x + 1, d[0]);\n"
            "    {\n"
            "      word y;\n"
            "      take d[0] into y;\n"
            "      either {\n"
            "        when y < 3 take a into x then {\n"
            "          r[x] = -(y + x);\n"
            "        }\n"
            "        take c into r[0] then {\n"
            "        }\n"
            "      }\n"
            "    }\n"
            "  }\n"
            "  repeat 7 while not (x == 1) {\n"
            "    if x {\n"
            "      stop;\n"
            "    } else {\n"
            "      channel e;\n"
            "    }\n"
            "  }\n"
            "}\n"
        )
        self.assertEqual(write_program(parse_program(text)), text)
        self.assertEqual(write_program(parse_program(" ".join(text.split()))), text)


class StatementTest(unittest.TestCase):
    def check(self, statement, *lines):
        self.assertEqual(written(statement), list(lines))

    def test_declarations(self):
        declarations = [
            ("word", "x"), ("array", "a", 3), ("array", "b", 0), ("channel", "c", None),
            ("channel", "d", 3), ("channel", "e", 0),
        ]
        self.check(
            ("block", declarations, []),
            "{", "  word x;", "  array a[3];", "  array b[0];", "  channel c;", "  channel d[3];",
            "  channel e[0];", "}",
        )

    def test_simple_statements(self):
        self.check(("skip",), "skip;")
        self.check(("stop",), "stop;")
        self.check(("assign", X, ("+", Y, ONE)), "x = y + 1;")
        self.check(("assign", ("item", "a", X), ("item", "a", ("+", X, ONE))), "a[x] = a[x + 1];")
        self.check(("give", ("neg", X), ("name", "c")), "give -x to c;")
        self.check(("give", ONE, ("item", "c", X)), "give 1 to c[x];")
        self.check(("take", ("item", "c", ONE), ("item", "a", X)), "take c[1] into a[x];")
        self.check(("take", ("name", "c"), X), "take c into x;")
        self.check(("call", "q", []), "call q();")
        self.check(("call", "q", [X]), "call q(x);")
        self.check(("call", "q", [("or", X, Y), ("num", 0), ("item", "c", ONE)]),
                   "call q(x or y, 0, c[1]);")

    def test_braces(self):
        self.check(EMPTY, "{", "}")
        self.check(SKIPS, "{", "  skip;", "}")
        self.check(("together", []), "together {", "}")
        self.check(("together", [("skip",), SKIPS]),
                   "together {", "  skip;", "  {", "    skip;", "  }", "}")
        self.check(("spread", "i", 0, 65535, SKIPS),
                   "together for i from 0 to 65535 {", "  skip;", "}")
        self.check(("repeat", 0, ("<", X, ONE), SKIPS), "repeat 0 while x < 1 {", "  skip;", "}")

    def test_either(self):
        self.check(("either", []), "either {", "}")
        rows = [
            (None, ("name", "c"), X, EMPTY),
            (("and", X, Y), ("item", "c", ONE), ("item", "a", X), SKIPS),
        ]
        self.check(
            ("either", rows),
            "either {", "  take c into x then {", "  }",
            "  when x and y take c[1] into a[x] then {", "    skip;", "  }", "}",
        )

    def test_if(self):
        self.check(("if", X, EMPTY, EMPTY), "if x {", "}")
        self.check(("if", X, SKIPS, EMPTY), "if x {", "  skip;", "}")
        self.check(("if", X, EMPTY, SKIPS), "if x {", "} else {", "  skip;", "}")
        self.check(("if", X, SKIPS, ("block", [("word", "y")], [])),
                   "if x {", "  skip;", "} else {", "  word y;", "}")
        inner = ("if", Y, EMPTY, SKIPS)
        self.check(
            ("if", X, ("block", [], [inner]), ("block", [], [inner])),
            "if x {", "  if y {", "  } else {", "    skip;", "  }",
            "} else {", "  if y {", "  } else {", "    skip;", "  }", "}",
        )


class ExpressionTest(unittest.TestCase):
    def check(self, e, text):
        self.assertEqual(write_expression(e), text)
        self.assertEqual(parsed_expression(text), e)

    def test_without_operators(self):
        self.check(("num", 0), "0")
        self.check(("num", 65535), "65535")
        self.check(X, "x")
        self.check(("item", "a", ("item", "b", ONE)), "a[b[1]]")
        self.check(("item", "a", ("or", X, Y)), "a[x or y]")
        self.check(("item", "a", ("neg", X)), "a[-x]")

    def test_operators_of_one_operand(self):
        for kind, front in (("neg", "-"), ("not", "not ")):
            self.check((kind, ONE), front + "1")
            self.check((kind, X), front + "x")
            self.check((kind, ("item", "a", ("+", X, Y))), front + "a[x + y]")
            self.check((kind, ("neg", X)), front + "-x")
            self.check((kind, ("not", X)), front + "not x")
            for operator in TWO:
                self.check((kind, (operator, X, Y)), f"{front}(x {operator} y)")
                self.check((operator, (kind, X), Y), f"{front}x {operator} y")
                self.check((operator, X, (kind, Y)), f"x {operator} {front}y")

    def test_every_pair_of_operators_of_two_operands(self):
        for row, line in enumerate(LINES):
            for outer in line:
                for inner_row, inner_line in enumerate(LINES):
                    for inner in inner_line:
                        left = f"x {inner} y {outer} z"
                        if inner_row < row or inner_row == row == 2:
                            left = f"(x {inner} y) {outer} z"
                        self.check((outer, (inner, X, Y), Z), left)
                        right = f"x {outer} y {inner} z"
                        if inner_row <= row:
                            right = f"x {outer} (y {inner} z)"
                        self.check((outer, X, (inner, Y, Z)), right)

    def test_some_of_them_in_full(self):
        self.check(("-", ("-", X, Y), Z), "x - y - z")
        self.check(("-", X, ("-", Y, Z)), "x - (y - z)")
        self.check(("+", X, ("+", Y, Z)), "x + (y + z)")
        self.check(("==", ("==", X, Y), Z), "(x == y) == z")
        self.check(("<", X, ("<=", Y, Z)), "x < (y <= z)")
        self.check(("and", ("or", X, Y), Z), "(x or y) and z")
        self.check(("or", ("and", X, Y), Z), "x and y or z")
        self.check(("*", ("+", X, Y), ("mod", Y, Z)), "(x + y) * (y mod z)")
        self.check(("neg", ("neg", ("not", ("neg", ONE)))), "--not -1")
        self.check(("-", ("neg", X), ("neg", ("-", X, Y))), "-x - -(x - y)")

    def test_a_pair_of_parentheses_that_is_written_is_needed(self):
        rng = random.Random(21)
        for _ in range(400):
            e = draw_expression(rng, 3)
            text = write_expression(e)
            for at in range(len(text)):
                if text[at] == "(":
                    to = closing(text, at)
                    bare = text[:at] + text[at + 1:to] + text[to + 1:]
                    self.assertNotEqual(parsed_or_none(bare), e)


def closing(text, at):
    """The index of the parenthesis that closes the one at an index."""
    depth = 0
    for index in range(at, len(text)):
        depth += {"(": 1, ")": -1}.get(text[index], 0)
        if depth == 0:
            return index
    raise AssertionError(text)


def parsed_or_none(text):
    try:
        return parsed_expression(text)
    except ValueError:
        return None


class RoundTest(unittest.TestCase):
    def test_drawn_expressions(self):
        rng = random.Random(22)
        for _ in range(1500):
            e = draw_expression(rng, rng.randrange(6))
            self.assertEqual(parsed_expression(write_expression(e)), e)

    def test_drawn_programs(self):
        rng = random.Random(23)
        for _ in range(400):
            program = draw_program(rng)
            text = write_program(program)
            self.assertEqual(parse_program(text), program)
            self.assertEqual(write_program(parse_program(text)), text)

    def test_the_bounds_of_point_3_4(self):
        e = X
        for index in range(12):
            e = ("item", "a", e) if index % 2 else ("not", e)
        body = ("block", [], [("assign", ("name", "x"), e)])
        for _ in range(7):
            body = ("block", [], [body])
        program = ("program", "p", [], [], [], body)
        self.assertEqual(parse_program(write_program(program)), program)
        levels = X
        for _ in range(12):
            levels = ("-", X, levels)
        self.assertEqual(parsed_expression(write_expression(levels)), levels)
        flat = X
        for operator in ("*", "/", "mod", "*", "+", "-", "+", "and", "and", "or"):
            for _ in range(4):
                flat = (operator, flat, Y)
        self.assertEqual(parsed_expression(write_expression(flat)), flat)
        self.assertNotIn("(", write_expression(flat))

    def test_the_argument_is_not_modified(self):
        rng = random.Random(24)
        for _ in range(50):
            program = draw_program(rng)
            before = frozen(program)
            first = write_program(program)
            self.assertEqual(frozen(program), before)
            self.assertEqual(write_program(program), first)
            e = draw_expression(rng, 4)
            before = frozen(e)
            write_expression(e)
            self.assertEqual(frozen(e), before)


if __name__ == "__main__":
    unittest.main()
