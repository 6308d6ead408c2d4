"""Points 3.1 to 3.3: what programs are parsed to."""

import unittest

from placedanyhow.parsing import parse_program
from tests.support import body_of, is_plain, parsed_expression, statements_of, text_error, parsed

X = ("name", "x")
Y = ("name", "y")
Z = ("name", "z")
ONE = ("num", 1)
EMPTY = ("block", [], [])
SKIPS = ("block", [], [("skip",)])


class ProgramTest(unittest.TestCase):
    def test_the_example(self):
        self.assertEqual(
            parse_program("program p in a; out b; main { word x; take a into x; give x + 1 to b; }"),
            ("program", "p", ["a"], ["b"], [], ("block", [("word", "x")], [
                ("take", ("name", "a"), X), ("give", ("+", X, ONE), ("name", "b")),
            ])),
        )

    def test_a_program_of_nothing(self):
        self.assertEqual(parse_program("program p main {}"), ("program", "p", [], [], [], EMPTY))

    def test_ins_and_outs(self):
        self.assertEqual(
            parse_program("program p in a, b, c; out d, e; main { }"),
            ("program", "p", ["a", "b", "c"], ["d", "e"], [], EMPTY),
        )
        self.assertEqual(
            parse_program("program p in a; main { }"), ("program", "p", ["a"], [], [], EMPTY)
        )
        self.assertEqual(
            parse_program("program p out a; main { }"), ("program", "p", [], ["a"], [], EMPTY)
        )

    def test_processes(self):
        self.assertEqual(
            parse_program(
                "program p process q() { skip; } process r(word x) { } "
                "process s(channel c, word y, channel d) { word z; } main { call q(); }"
            ),
            ("program", "p", [], [], [
                ("process", "q", [], SKIPS),
                ("process", "r", [("word", "x")], EMPTY),
                ("process", "s", [("channel", "c"), ("word", "y"), ("channel", "d")],
                 ("block", [("word", "z")], [])),
            ], ("block", [], [("call", "q", [])])),
        )

    def test_a_whole_program_of_all_kinds(self):
        program = parse_program(
            "program all in a; out b; process q(word x, channel c) { give x to c; }\n"
            "main { word x; array r[3]; channel c; together { call q(1, c); take c into r[x]; } }"
        )
        self.assertTrue(is_plain(program))
        self.assertEqual(program, ("program", "all", ["a"], ["b"], [
            ("process", "q", [("word", "x"), ("channel", "c")],
             ("block", [], [("give", X, ("name", "c"))])),
        ], ("block", [("word", "x"), ("array", "r", 3), ("channel", "c", None)], [
            ("together", [
                ("call", "q", [ONE, ("name", "c")]),
                ("take", ("name", "c"), ("item", "r", X)),
            ]),
        ])))

    def test_the_lists_are_the_callers(self):
        text = "program p in a; main { word x; skip; }"
        first = parse_program(text)
        first[2].clear()
        first[5][2].clear()
        self.assertEqual(
            parse_program(text),
            ("program", "p", ["a"], [], [], ("block", [("word", "x")], [("skip",)])),
        )


class BlockTest(unittest.TestCase):
    def test_declarations(self):
        self.assertEqual(
            body_of("{ word x; array a[3]; channel c; channel d[0]; channel e[65535]; array b[0]; }"),
            ("block", [
                ("word", "x"), ("array", "a", 3), ("channel", "c", None), ("channel", "d", 0),
                ("channel", "e", 65535), ("array", "b", 0),
            ], []),
        )

    def test_declarations_stand_in_front_of_statements(self):
        self.assertEqual(parsed("program p main {\nx = 1;\nword x; }"), text_error(3))
        self.assertEqual(parsed("program p main { skip;\nchannel c; }"), text_error(2))
        self.assertEqual(parsed("program p main { { }\narray a[1]; }"), text_error(2))

    def test_an_array_has_a_number_as_its_size(self):
        self.assertEqual(parsed("program p main { array a\n; }"), text_error(2))
        self.assertEqual(parsed("program p main { array a[\nx]; }"), text_error(2))
        self.assertEqual(parsed("program p main { channel c[1\n+ 1]; }"), text_error(2))

    def test_blocks_in_blocks(self):
        self.assertEqual(
            body_of("{ word x; { word x; skip; } { } }"),
            ("block", [("word", "x")], [("block", [("word", "x")], [("skip",)]), EMPTY]),
        )


class StatementTest(unittest.TestCase):
    def check(self, text, *statements):
        self.assertEqual(statements_of(text), list(statements))

    def test_simple_statements(self):
        self.check("skip; stop;", ("skip",), ("stop",))
        self.check("x = y;", ("assign", X, Y))
        self.check("a[x] = a[1];", ("assign", ("item", "a", X), ("item", "a", ONE)))
        self.check("give 1 to c;", ("give", ONE, ("name", "c")))
        self.check("give x to c[y];", ("give", X, ("item", "c", Y)))
        self.check("take c into x;", ("take", ("name", "c"), X))
        self.check("take c[1] into a[x];", ("take", ("item", "c", ONE), ("item", "a", X)))

    def test_together(self):
        self.check("together { }", ("together", []))
        self.check(
            "together { skip; { stop; } together { skip; } }",
            ("together", [("skip",), ("block", [], [("stop",)]), ("together", [("skip",)])]),
        )

    def test_spread(self):
        self.check(
            "together for i from 0 to 65535 { skip; }", ("spread", "i", 0, 65535, SKIPS)
        )
        self.check("together for i from 5 to 2 { }", ("spread", "i", 5, 2, EMPTY))

    def test_either(self):
        self.check("either { }", ("either", []))
        self.check(
            "either { take c into x then { skip; } when x < 1 take d[x] into a[1] then { } }",
            ("either", [
                (None, ("name", "c"), X, SKIPS),
                (("<", X, ONE), ("item", "d", X), ("item", "a", ONE), EMPTY),
            ]),
        )

    def test_if(self):
        self.check("if x { skip; }", ("if", X, SKIPS, EMPTY))
        self.check("if x { } else { skip; }", ("if", X, EMPTY, SKIPS))
        self.check("if x { } else { }", ("if", X, EMPTY, EMPTY))
        self.check(
            "if x { if y { } } else { word z; }",
            ("if", X, ("block", [], [("if", Y, EMPTY, EMPTY)]), ("block", [("word", "z")], [])),
        )
        self.check(
            "if x { if y { } else { skip; } }",
            ("if", X, ("block", [], [("if", Y, EMPTY, SKIPS)]), EMPTY),
        )

    def test_repeat(self):
        self.check("repeat 5 while x { skip; }", ("repeat", 5, X, SKIPS))
        self.check("repeat 0 while 1 { }", ("repeat", 0, ONE, EMPTY))

    def test_call(self):
        self.check("call q();", ("call", "q", []))
        self.check("call q(x);", ("call", "q", [X]))
        self.check(
            "call q(x + 1, a[y], (c), -1);",
            ("call", "q", [("+", X, ONE), ("item", "a", Y), ("name", "c"), ("neg", ONE)]),
        )


class ExpressionTest(unittest.TestCase):
    def check(self, text, expected):
        self.assertEqual(parsed_expression(text), expected)

    def test_factors(self):
        self.check("7", ("num", 7))
        self.check("x", X)
        self.check("a[7]", ("item", "a", ("num", 7)))
        self.check("(x)", X)
        self.check("((7))", ("num", 7))
        self.check("-x", ("neg", X))
        self.check("not x", ("not", X))
        self.check("- -x", ("neg", ("neg", X)))
        self.check("--x", ("neg", ("neg", X)))
        self.check("not - not x", ("not", ("neg", ("not", X))))

    def test_an_operator_of_one_operand_takes_one_factor(self):
        self.check("-x + y", ("+", ("neg", X), Y))
        self.check("-x * y", ("*", ("neg", X), Y))
        self.check("not x == y", ("==", ("not", X), Y))
        self.check("not x and y", ("and", ("not", X), Y))
        self.check("not (x and y)", ("not", ("and", X, Y)))
        self.check("-a[x] - y", ("-", ("neg", ("item", "a", X)), Y))
        self.check("x - -y", ("-", X, ("neg", Y)))
        self.check("x*-y", ("*", X, ("neg", Y)))

    def test_every_operator_of_two_operands(self):
        for operator in ("or", "and", "==", "!=", "<", "<=", "+", "-", "*", "/", "mod"):
            self.check("x " + operator + " y", (operator, X, Y))

    def test_operators_of_one_line_associate_to_the_left(self):
        for first, second in (
            ("or", "or"), ("and", "and"), ("+", "+"), ("+", "-"), ("-", "+"), ("-", "-"),
            ("*", "*"), ("*", "/"), ("/", "mod"), ("mod", "*"), ("/", "/"),
        ):
            self.check(f"x {first} y {second} z", (second, (first, X, Y), Z))
            self.check(f"x {first} (y {second} z)", (first, X, (second, Y, Z)))

    def test_operators_of_different_lines(self):
        lines = (("or",), ("and",), ("==", "!=", "<", "<="), ("+", "-"), ("*", "/", "mod"))
        for low, outer in enumerate(lines):
            for inner in lines[low + 1:]:
                for first in outer:
                    for second in inner:
                        self.check(f"x {first} y {second} z", (first, X, (second, Y, Z)))
                        self.check(f"x {second} y {first} z", (first, (second, X, Y), Z))
                        self.check(f"(x {first} y) {second} z", (second, (first, X, Y), Z))
                        self.check(f"x {second} (y {first} z)", (second, X, (first, Y, Z)))

    def test_a_test_does_not_go_on_behind_a_second_one(self):
        for first in ("==", "!=", "<", "<="):
            for second in ("==", "!=", "<", "<="):
                text = f"program p main {{ x = 1 {first} 2\n{second} 3; }}"
                self.assertEqual(parsed(text), text_error(2))
                self.check(f"(x {first} y) {second} z", (second, (first, X, Y), Z))
                self.check(f"x {first} (y {second} z)", (first, X, (second, Y, Z)))
        self.check("x < y and y < z", ("and", ("<", X, Y), ("<", Y, Z)))

    def test_items_in_items(self):
        self.check("a[b[x] + 1]", ("item", "a", ("+", ("item", "b", X), ONE)))
        self.check("a[a[a[1]]]", ("item", "a", ("item", "a", ("item", "a", ONE))))
        self.check("a[x < y]", ("item", "a", ("<", X, Y)))
        self.check("a[(x)]", ("item", "a", X))

    def test_what_is_no_expression(self):
        for text in (
            "x[1]\n[2]", "(x)\n[1]", "1\n[1]", "a[\n]", "\n()", "a[1\n, 2]", "x\ny", "x\n1", "1\nx",
            "\n", "x +\n", "x +\n+ y", "\n* x", "(x\n", "(x\n]", "a[x\n)", "x\n)", "x\n not y", "-\n",
            "x and\nor y", "\nskip", "x\n= y",
        ):
            self.assertEqual(parsed("program p main { x = " + text + "; }"), text_error(2))


if __name__ == "__main__":
    unittest.main()
