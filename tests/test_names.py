"""Points 5.1 to 5.6: the core of a program."""

import random
import unittest

from placedanyhow.errors import RuleError
from placedanyhow.names import expand
from placedanyhow.parsing import parse_program
from tests.drawing import draw_program
from tests.support import expanded, frozen, is_plain

SKIP = ("skip",)
NOTHING = ("seq", [])


def num(n):
    return ("num", n)


def cell(k):
    return ("cell", k)


def seq(*parts):
    return ("seq", list(parts))


def par(*rows):
    return ("par", list(rows))


def zero(k):
    return ("set", cell(k), num(0))


def setting(k, e):
    return ("set", cell(k), e)


class CoreTest(unittest.TestCase):
    def check(self, text, cells, kinds, *parts):
        """Checks the core of a program whose body has these parts."""
        found = expanded(text)
        self.assertEqual(found, ("core", cells, kinds, seq(*parts)))
        self.assertTrue(is_plain(found))

    def check_body(self, text, cells, *parts):
        """Checks the core of "main" with this text, which has no channels."""
        self.check("program p main { " + text + " }", cells, [], *parts)


class StatementTest(CoreTest):
    def test_the_example(self):
        self.check(
            "program p out b; process q(word x, channel c) { give x * 2 to c; } "
            "main { channel d; word y; together { call q(3, d); take d into y; } give y to b; }",
            2, ["out", "inner"],
            par(
                (1, seq(setting(1, num(3)), seq(("give", 1, ("*", cell(1), num(2)))))),
                (2, ("take", 1, cell(0))),
            ),
            ("give", 0, cell(0)),
        )

    def test_a_program_of_nothing(self):
        self.check_body("", 0)
        self.check_body("skip;", 0, SKIP)

    def test_simple_statements(self):
        self.check(
            "program p in a; out b; main { word x; array r[3]; channel c; channel d[2]; "
            "skip; stop; x = r[x]; r[1] = 2; r[x] = r[3]; give x to b; take a into r[2]; "
            "give 1 to d[1]; take c into x; take d[0] into r[x + 1]; }",
            4, ["in", "out", "inner", "inner", "inner"],
            SKIP,
            ("stop",),
            setting(0, ("at", 1, 3, cell(0))),
            setting(2, num(2)),
            ("set", ("at", 1, 3, cell(0)), ("at", 1, 3, num(3))),
            ("give", 1, cell(0)),
            ("take", 0, cell(3)),
            ("give", 4, num(1)),
            ("take", 2, cell(0)),
            ("take", 3, ("at", 1, 3, ("+", cell(0), num(1)))),
        )

    def test_if_and_repeat(self):
        self.check_body(
            "word x; if x { skip; } if x < 1 { } else { stop; } "
            "repeat 5 while x < 3 { x = x + 1; } repeat 0 while 1 { }",
            1,
            ("if", cell(0), seq(SKIP), NOTHING),
            ("if", ("<", cell(0), num(1)), NOTHING, seq(("stop",))),
            ("repeat", ("<", cell(0), num(3)), 5, seq(setting(0, ("+", cell(0), num(1))))),
            ("repeat", num(1), 0, NOTHING),
        )

    def test_either(self):
        self.check(
            "program p in a; main { word x; array r[2]; channel c[2]; either { } either { "
            "take a into x then { skip; } when x mod 2 take c[1] into r[x] then { word y; y = x; } "
            "when 1 take c[0] into r[1] then { } } }",
            4, ["in", "inner", "inner"],
            ("alt", []),
            ("alt", [
                (None, 0, cell(0), seq(SKIP)),
                (("mod", cell(0), num(2)), 2, ("at", 1, 2, cell(0)), seq(setting(3, cell(0)))),
                (num(1), 1, cell(2), NOTHING),
            ]),
        )

    def test_together(self):
        self.check_body(
            "together { } together { skip; { stop; } together { skip; } }", 0,
            par(),
            par((1, SKIP), (2, seq(("stop",))), (3, par((4, SKIP)))),
        )

    def test_blocks(self):
        self.check_body("{ skip; { } } { stop; }", 0, seq(SKIP, NOTHING), seq(("stop",)))

    def test_every_operator(self):
        for operator in ("+", "-", "*", "/", "mod", "and", "or", "==", "!=", "<", "<="):
            self.check_body(
                f"word x; word y; x = x {operator} y;", 2,
                setting(0, (operator, cell(0), cell(1))),
            )
        self.check_body("word x; x = -x;", 1, setting(0, ("neg", cell(0))))
        self.check_body("word x; x = not x;", 1, setting(0, ("not", cell(0))))


class NumberTest(CoreTest):
    def test_cells_in_the_order_of_the_declarations(self):
        self.check_body(
            "word x; array a[3]; word y; { array b[2]; word z; b[1] = z; } { word w; w = y; } x = a[2];",
            9,
            seq(setting(6, cell(7))),
            seq(setting(8, cell(4))),
            setting(0, cell(3)),
        )

    def test_channels(self):
        self.check(
            "program p in a, b; out c, d; main { channel e; channel f[3]; channel g; word x; "
            "take b into x; give x to d; give x to e; give x to f[0]; give x to f[2]; give x to g; "
            "{ channel h; give x to h; } { channel h; give x to h; } }",
            1,
            ["in", "in", "out", "out", "inner", "inner", "inner", "inner", "inner", "inner", "inner"],
            ("take", 1, cell(0)),
            ("give", 3, cell(0)),
            ("give", 4, cell(0)),
            ("give", 5, cell(0)),
            ("give", 7, cell(0)),
            ("give", 8, cell(0)),
            seq(("give", 9, cell(0))),
            seq(("give", 10, cell(0))),
        )

    def test_threads_are_numbered_before_those_inside_them(self):
        self.check_body(
            "together { together { skip; { together { stop; } } } "
            "if 1 { together { skip; } } else { together { skip; } } } "
            "repeat 1 while 1 { together { skip; } }",
            0,
            par(
                (1, par((2, SKIP), (3, seq(par((4, ("stop",))))))),
                (5, ("if", num(1), seq(par((6, SKIP))), seq(par((7, SKIP))))),
            ),
            ("repeat", num(1), 1, seq(par((8, SKIP)))),
        )

    def test_cells_and_threads_of_either(self):
        self.check(
            "program p in a, b; main { word x; either { take a into x then { word y; together { y = 1; } } "
            "take b into x then { word y; together { y = 2; } } } }",
            3, ["in", "in"],
            ("alt", [
                (None, 0, cell(0), seq(par((1, setting(1, num(1)))))),
                (None, 1, cell(0), seq(par((2, setting(2, num(2)))))),
            ]),
        )

    def test_cells_of_if(self):
        self.check_body(
            "word x; if x { word y; x = y; } else { word y; x = y; } { word y; x = y; }", 4,
            ("if", cell(0), seq(setting(0, cell(1))), seq(setting(0, cell(2)))),
            seq(setting(0, cell(3))),
        )


class SpreadTest(CoreTest):
    def test_none(self):
        self.check_body("together for i from 1 to 0 { skip; }", 0, par())
        self.check_body("together for i from 65535 to 0 { word x; x = i; }", 0, par())

    def test_one(self):
        self.check_body(
            "word x; together for i from 3 to 3 { x = i; }", 1, par((1, seq(setting(0, num(3)))))
        )
        self.check_body(
            "word x; together for i from 65535 to 65535 { x = i + 1; }", 1,
            par((1, seq(setting(0, num(0))))),
        )

    def test_many(self):
        self.check(
            "program p main { array a[3]; channel c[4]; together for i from 1 to 3 { word x; "
            "channel d; a[i - 1] = i * i; take c[i] into x; give x to d; } }",
            6, ["inner"] * 7,
            par(
                (1, seq(setting(0, num(1)), ("take", 1, cell(3)), ("give", 4, cell(3)))),
                (2, seq(setting(1, num(4)), ("take", 2, cell(4)), ("give", 5, cell(4)))),
                (3, seq(setting(2, num(9)), ("take", 3, cell(5)), ("give", 6, cell(5)))),
            ),
        )

    def test_a_spread_within_a_spread(self):
        self.check_body(
            "array a[4]; together for i from 0 to 1 { together for j from 0 to 1 { a[2 * i + j] = j; } }",
            4,
            par(
                (1, seq(par((2, seq(setting(0, num(0)))), (3, seq(setting(1, num(1))))))),
                (4, seq(par((5, seq(setting(2, num(0)))), (6, seq(setting(3, num(1))))))),
            ),
        )

    def test_the_number_hides_and_is_hidden(self):
        self.check_body(
            "word i; together for i from 5 to 6 { word x; x = i; { word i; x = i; } x = i; } i = 1;",
            5,
            par(
                (1, seq(setting(1, num(5)), seq(setting(1, cell(2))), setting(1, num(5)))),
                (2, seq(setting(3, num(6)), seq(setting(3, cell(4))), setting(3, num(6)))),
            ),
            setting(0, num(1)),
        )
        self.check_body(
            "together for i from 5 to 5 { word i; i = 1; }", 1, par((1, seq(setting(0, num(1)))))
        )
        self.check_body(
            "together for i from 1 to 1 { together for i from 2 to 2 { word x; x = i; } }", 1,
            par((1, seq(par((2, seq(setting(0, num(2)))))))),
        )


class CallTest(CoreTest):
    def test_parameters(self):
        self.check(
            "program p in a; out b; process q(word x, channel c, word y, channel d) { word z; "
            "take c into z; give x + y + z to d; } main { word v; channel e[2]; "
            "call q(v + 1, a, 2 * 3, b); call q(v, e[1], v, e[2 - 2]); }",
            7, ["in", "out", "inner", "inner"],
            seq(
                setting(1, ("+", cell(0), num(1))),
                setting(2, num(6)),
                seq(("take", 0, cell(3)), ("give", 1, ("+", ("+", cell(1), cell(2)), cell(3)))),
            ),
            seq(
                setting(4, cell(0)),
                setting(5, cell(0)),
                seq(("take", 3, cell(6)), ("give", 2, ("+", ("+", cell(4), cell(5)), cell(6)))),
            ),
        )

    def test_no_parameters(self):
        self.check(
            "program p process q() { } process r() { skip; } main { call r(); call q(); }", 0, [],
            seq(seq(SKIP)), seq(NOTHING),
        )

    def test_a_parameter_may_be_written(self):
        self.check(
            "program p process q(word x) { x = x + 1; } main { word x; call q(x); }", 2, [],
            seq(setting(1, cell(0)), seq(setting(1, ("+", cell(1), num(1))))),
        )

    def test_an_argument_is_that_of_the_caller(self):
        self.check(
            "program p process q(word x, word y) { x = y; } main { word y; word x; call q(y, x); }",
            4, [],
            seq(setting(2, cell(0)), setting(3, cell(1)), seq(setting(2, cell(3)))),
        )

    def test_a_process_calls_an_earlier_one(self):
        self.check(
            "program p out b; process q(word x, channel c) { give x to c; } "
            "process r(channel d, word y) { call q(y + 1, d); call q(7, d); } "
            "main { call r(b, 5); }",
            3, ["out"],
            seq(
                setting(0, num(5)),
                seq(
                    seq(setting(1, ("+", cell(0), num(1))), seq(("give", 0, cell(1)))),
                    seq(setting(2, num(7)), seq(("give", 0, cell(2)))),
                ),
            ),
        )

    def test_a_call_within_a_spread(self):
        self.check(
            "program p process q(word x, channel c) { channel d; give x to c; give x to d; } "
            "main { channel c[2]; together for i from 0 to 1 { call q(i + 5, c[i]); } }",
            2, ["inner"] * 4,
            par(
                (1, seq(seq(setting(0, num(5)), seq(("give", 0, cell(0)), ("give", 2, cell(0)))))),
                (2, seq(seq(setting(1, num(6)), seq(("give", 1, cell(1)), ("give", 3, cell(1)))))),
            ),
        )

    def test_threads_within_calls(self):
        self.check(
            "program p process q() { together { skip; stop; } } "
            "main { together { call q(); call q(); } }",
            0, [],
            par(
                (1, seq(seq(par((2, SKIP), (3, ("stop",)))))),
                (4, seq(seq(par((5, SKIP), (6, ("stop",)))))),
            ),
        )

    def test_a_channel_is_passed_on(self):
        self.check(
            "program p in a; process q(channel c) { word x; take c into x; } "
            "process r(channel c) { call q(c); } main { call r(a); call r((a)); }",
            2, ["in"],
            seq(seq(seq(seq(("take", 0, cell(0)))))),
            seq(seq(seq(seq(("take", 0, cell(1)))))),
        )

    def test_a_declaration_hides_a_parameter(self):
        self.check(
            "program p process q(word x) { array x[2]; x[1] = 3; } main { call q(9); }", 3, [],
            seq(setting(0, num(9)), seq(setting(2, num(3)))),
        )


class RepeatTest(CoreTest):
    def test_the_block_of_a_repeat(self):
        self.check_body(
            "word v; repeat 2 while v { word x; array a[2]; word y; x = y; }", 5,
            ("repeat", cell(0), 2, seq(zero(1), zero(2), zero(3), zero(4), setting(1, cell(4)))),
        )

    def test_channels_are_not_set(self):
        self.check(
            "program p main { repeat 2 while 1 { channel c; word x; channel d[3]; skip; } }",
            1, ["inner"] * 4,
            ("repeat", num(1), 2, seq(zero(0), SKIP)),
        )

    def test_blocks_outside_are_not_set(self):
        self.check_body(
            "word x; { word y; repeat 1 while x { y = 1; } } { word z; z = 1; }", 3,
            seq(("repeat", cell(0), 1, seq(setting(1, num(1))))),
            seq(setting(2, num(1))),
        )

    def test_all_blocks_inside(self):
        self.check(
            "program p in a; main { word t; repeat 3 while 1 { { word x; skip; } "
            "if 1 { word y; } else { word z; } together { { word u; } skip; } "
            "together for i from 1 to 2 { word v; v = i; } either { take a into t then { word w; } } } }",
            8, ["in"],
            ("repeat", num(1), 3, seq(
                seq(zero(1), SKIP),
                ("if", num(1), seq(zero(2)), seq(zero(3))),
                par((1, seq(zero(4))), (2, SKIP)),
                par((3, seq(zero(5), setting(5, num(1)))), (4, seq(zero(6), setting(6, num(2))))),
                ("alt", [(None, 0, cell(0), seq(zero(7)))]),
            )),
        )

    def test_a_repeat_within_a_repeat(self):
        self.check_body(
            "repeat 3 while 1 { word x; repeat 4 while x { word y; y = x; } }", 2,
            ("repeat", num(1), 3, seq(
                zero(0), ("repeat", cell(0), 4, seq(zero(1), setting(1, cell(0)))),
            )),
        )

    def test_a_call_within_a_repeat(self):
        self.check(
            "program p process q(word x) { word y; y = x; } "
            "process r() { word z; call q(z); } main { repeat 3 while 1 { call r(); } call r(); }",
            6, [],
            ("repeat", num(1), 3, seq(seq(seq(
                zero(0), seq(setting(1, cell(0)), seq(zero(2), setting(2, cell(1)))),
            )))),
            seq(seq(seq(setting(4, cell(3)), seq(setting(5, cell(4)))))),
        )

    def test_a_repeat_within_a_process(self):
        self.check(
            "program p process q() { word x; repeat 1 while 1 { word y; } { word z; z = 1; } } "
            "main { call q(); }",
            3, [],
            seq(seq(("repeat", num(1), 1, seq(zero(1))), seq(setting(2, num(1))))),
        )

    def test_arrays_of_one_cell(self):
        self.check_body(
            "repeat 1 while 1 { array a[1]; }", 1, ("repeat", num(1), 1, seq(zero(0)))
        )


class FoldTest(CoreTest):
    def folds(self, text, e):
        self.check_body("word x; array a[3]; x = " + text + ";", 4, setting(0, e))

    def test_numbers(self):
        self.folds("1 + 2 * 3", num(7))
        self.folds("1 - 2", num(65535))
        self.folds("-1", num(65535))
        self.folds("-0", num(0))
        self.folds("not 0", num(1))
        self.folds("not 7", num(0))
        self.folds("65535 * 65535", num(1))
        self.folds("7 / 2", num(3))
        self.folds("7 mod 4", num(3))
        self.folds("3 and 0", num(0))
        self.folds("3 or 0", num(1))
        self.folds("3 == 3", num(1))
        self.folds("3 != 3", num(0))
        self.folds("3 < 4", num(1))
        self.folds("4 <= 3", num(0))
        self.folds("not (1 + 1 == 2) or --3 < 2 - 3", num(1))

    def test_what_has_an_operand_that_is_no_number(self):
        self.folds("x * 0", ("*", cell(0), num(0)))
        self.folds("0 and x", ("and", num(0), cell(0)))
        self.folds("x + 1 + 2", ("+", ("+", cell(0), num(1)), num(2)))
        self.folds("x + (1 + 2)", ("+", cell(0), num(3)))
        self.folds("-x", ("neg", cell(0)))
        self.folds("- -x", ("neg", ("neg", cell(0))))
        self.folds("not (x - -1)", ("not", ("-", cell(0), num(65535))))

    def test_what_faults_stays(self):
        self.folds("1 / 0", ("/", num(1), num(0)))
        self.folds("5 mod (3 - 3)", ("mod", num(5), num(0)))
        self.folds("1 / 0 + (1 + 1)", ("+", ("/", num(1), num(0)), num(2)))
        self.folds("-(1 / 0)", ("neg", ("/", num(1), num(0))))
        self.folds("0 and 1 mod 0", ("and", num(0), ("mod", num(1), num(0))))

    def test_items(self):
        self.folds("a[0]", cell(1))
        self.folds("a[2]", cell(3))
        self.folds("a[3]", ("at", 1, 3, num(3)))
        self.folds("a[65535]", ("at", 1, 3, num(65535)))
        self.folds("a[3 - 2]", cell(2))
        self.folds("a[1 + 2]", ("at", 1, 3, num(3)))
        self.folds("a[-1]", ("at", 1, 3, num(65535)))
        self.folds("a[1 == 1]", cell(2))
        self.folds("a[x]", ("at", 1, 3, cell(0)))
        self.folds("a[x * 0]", ("at", 1, 3, ("*", cell(0), num(0))))
        self.folds("a[1 / 0]", ("at", 1, 3, ("/", num(1), num(0))))
        self.folds("a[a[1]]", ("at", 1, 3, cell(2)))
        self.folds("a[a[3]]", ("at", 1, 3, ("at", 1, 3, num(3))))
        self.folds("a[1] + 1", ("+", cell(2), num(1)))

    def test_targets(self):
        for index, target in (
            ("0", cell(1)), ("2", cell(3)), ("3", ("at", 1, 3, num(3))), ("1 + 1", cell(3)),
            ("x", ("at", 1, 3, cell(0))), ("0 - 1", ("at", 1, 3, num(65535))),
        ):
            self.check_body(
                f"word x; array a[3]; a[{index}] = 5;", 4, ("set", target, num(5))
            )
            self.check(
                f"program p in c; main {{ word x; array a[3]; take c into a[{index}]; }}",
                4, ["in"], ("take", 0, target),
            )

    def test_the_number_of_a_spread(self):
        self.check_body(
            "array a[2]; together for i from 1 to 2 { a[i] = a[2 - i] + (i - 1) / (2 - i); }", 2,
            par(
                (1, seq(setting(1, ("+", cell(1), num(0))))),
                (2, seq(("set", ("at", 0, 2, num(2)), ("+", cell(0), ("/", num(1), num(0)))))),
            ),
        )

    def test_everywhere(self):
        self.check(
            "program p out b; process q(word y) { } main { word x; give 1 + 1 to b; if 2 - 1 { } "
            "repeat 3 while 1 - 1 { } call q(2 * 2); }",
            2, ["out"],
            ("give", 0, num(2)),
            ("if", num(1), NOTHING, NOTHING),
            ("repeat", num(0), 3, NOTHING),
            seq(setting(1, num(4)), NOTHING),
        )

    def test_the_index_of_a_channel(self):
        self.check(
            "program p main { channel c[3]; word x; give 1 to c[1 + 1]; take c[2 - 2] into x; "
            "either { take c[1 == 1] into x then { } } }",
            1, ["inner"] * 3,
            ("give", 2, num(1)),
            ("take", 0, cell(0)),
            ("alt", [(None, 1, cell(0), NOTHING)]),
        )


class ValueTest(unittest.TestCase):
    def test_the_argument_is_not_modified(self):
        text = (
            "program p in a; out b; process q(word x, channel c) { array r[2]; give r[x] to c; } "
            "main { word y; repeat 2 while y { call q(y, b); take a into y; } together { skip; } }"
        )
        program = parse_program(text)
        before = frozen(program)
        first = expand(program)
        self.assertEqual(frozen(program), before)
        kept = frozen(first)
        second = expand(program)
        self.assertEqual(frozen(first), kept)
        self.assertEqual(second, first)

    def test_drawn_programs_are_expanded_or_refused(self):
        rng = random.Random(31)
        for _ in range(300):
            program = draw_program(rng)
            before = frozen(program)
            try:
                self.assertTrue(is_plain(expand(program)))
            except RuleError as e:
                self.assertIn(e.rule, ("name", "size", "call", "constant", "channel", "either"))
            self.assertEqual(frozen(program), before)

    def test_the_deepest_expansion(self):
        deep = "if x { " * 7 + "call {0}(x); " + "} " * 7
        text = "program p process q0(word x) { if x { } } "
        for index in range(1, 6):
            inner = deep.replace("{0}", f"q{index - 1}")
            text += f"process q{index}(word x) {{ {inner} }} "
        text += "main { word x; " + deep.replace("{0}", "q5") + "}"
        self.assertEqual(expanded(text)[:3], ("core", 7, []))


if __name__ == "__main__":
    unittest.main()
