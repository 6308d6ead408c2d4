"""Point 5.8: the first broken rule in the order of the expansion decides."""

import unittest

from tests.support import RuleTest

WORDS_63 = "".join(f"word w{k}; " for k in range(63))
WORDS_64 = WORDS_63 + "word w63; "


class HeadTest(RuleTest):
    def test_ins_and_outs_come_before_processes(self):
        names = ", ".join(f"a{k}" for k in range(25))
        same = "process q() { } process q() { } "
        seven = "".join(f"process r{k}() {{ }} " for k in range(7))
        self.breaks("name", f"program p in {names}; {same} main {{ }}")
        self.breaks("name", f"program p in {names}, a0; {seven} main {{ }}")
        self.breaks("name", f"program p {seven} process r0() {{ }} main {{ }}")
        self.breaks("size", f"program p {seven} main {{ x = 1; }}")
        self.breaks("size", f"program p in {names}; main {{ x = 1; }}")
        self.breaks("size", f"program p in {names}; main {{ call nobody(); }}")
        self.breaks("name", "program p in a, a; main { array r[0]; }")
        self.breaks("name", f"program p {same} main {{ array r[0]; }}")


class TextOrderTest(RuleTest):
    def test_statements(self):
        self.body_breaks("name", "x = 1; call nobody();")
        self.body_breaks("call", "call nobody(); x = 1;")
        self.body_breaks("channel", "{ give 1 to a; } { x = 1; }")
        self.body_breaks("size", "{ array r[0]; } x = 1;")
        self.body_breaks("channel", "together { skip; give 1 to a; x = 1; }")
        self.body_breaks("name", "together { skip; x = 1; give 1 to a; }")

    def test_declarations(self):
        self.body_breaks("name", "word x; array x[0];")
        self.body_breaks("name", "word x; channel x[9];")
        self.body_breaks("size", "array x[0]; word x;")
        self.body_breaks("size", "array x[9]; word y; word y;")
        self.body_breaks("name", "word y; word y; array x[9];")
        self.body_breaks("size", "array x[9]; y = 1;")

    def test_a_declaration_is_counted_behind_its_name_and_its_size(self):
        self.body_breaks("name", WORDS_64 + "word w0;")
        self.body_breaks("name", WORDS_64 + "array w0[1];")
        self.body_breaks("size", WORDS_64 + "word y; word w0;")
        channels = "".join(f"channel c{k}; " for k in range(21))
        self.body_breaks("name", channels + "channel c0;")
        self.body_breaks("size", channels + "channel d; channel c0;")

    def test_statements_are_counted_where_they_begin(self):
        full = "skip; " * 299
        for text in (
            "x = 1;", "give 1 to a;", "call nobody();", "{ array r[0]; word y; word y; }",
            "either { take b into x then { } }", "if x { }", "repeat 1 while x { }",
        ):
            self.body_breaks("size", full + text)
        nearly = "skip; " * 298
        self.body_breaks("name", nearly + "x = 1; skip;")
        self.body_breaks("name", nearly + "if x { }")
        self.body_breaks("size", nearly + "if 1 { x = 1; }")
        self.body_breaks("name", nearly + "{ word y; word y; }")
        self.body_breaks("size", nearly + "{ skip; x = 1; }")
        self.body_breaks("channel", nearly + "either { take b into x then { } }")

    def test_the_block_of_a_missing_else_is_counted_in_its_place(self):
        text = "skip; " * 296
        self.body_keeps(text + "if 1 { }")
        self.body_breaks("name", text + "if 1 { x = 1; }")
        self.body_breaks("size", text + "if 1 { skip; } x = 1;")
        self.body_breaks("size", "skip; " * 297 + "if 1 { } x = 1;")

    def test_a_branch_is_counted_in_front_of_its_statement(self):
        self.body_breaks("size", "together { " + "skip; " * 11 + "x = 1; }")
        self.body_breaks("name", "together { " + "skip; " * 10 + "x = 1; skip; }")
        self.body_breaks("name", "together for i from 0 to 65535 { x = i; }")
        self.body_breaks("size", "together for i from 0 to 65535 { }")
        self.body_breaks("channel", "together { " + "skip; " * 9 + "together { give 1 to a; skip; } }")


class PartOrderTest(RuleTest):
    def test_assign(self):
        self.body_breaks("name", "array r[2]; r[y] = 1;")
        self.body_breaks("name", "x = 1 / 0;")

    def test_give(self):
        self.body_breaks("name", "give y to a;")
        self.body_breaks("channel", "give 1 to a;")
        self.body_breaks("constant", "channel c[2]; give 1 to c[2];")
        self.body_breaks("name", "channel c[2]; give y to c[2];")
        self.body_breaks("name", "channel c[2]; give 1 to c[y];")
        self.body_breaks("name", "channel c[2]; give 1 to c[5 + y];")

    def test_take(self):
        self.body_breaks("channel", "take b into y;")
        self.body_breaks("constant", "channel c[2]; take c[2] into y;")
        self.body_breaks("name", "channel c[2]; take c[y] into y;")
        self.body_breaks("name", "take a into y;")

    def test_if_and_repeat(self):
        self.body_breaks("name", "if x { call nobody(); }")
        self.body_breaks("call", "if 1 { call nobody(); } else { x = 1; }")
        self.body_breaks("name", "if 1 { x = 1; } else { call nobody(); }")
        self.body_breaks("name", "repeat 1 while x { call nobody(); }")
        self.body_breaks("call", "repeat 1 while 1 { call nobody(); }")

    def test_rows(self):
        front = "word v; channel c; channel d[2]; either { take c into v then { } "
        self.body_breaks("name", front + "when x take b into v then { } }")
        self.body_breaks("channel", front + "when v take b into x then { } }")
        self.body_breaks("constant", front + "take d[2] into x then { } }")
        self.body_breaks("either", front + "take c into x then { } }")
        self.body_breaks("name", front + "when x take c into v then { } }")
        self.body_breaks("name", front + "take a into x then { call nobody(); } }")
        self.body_breaks("either", front + "take c into v then { call nobody(); } }")
        self.body_breaks("call", front + "take a into v then { call nobody(); } take c into v then { } }")
        self.body_breaks("either", front + "take c into v then { } take b into v then { } }")
        self.body_breaks("channel", front + "take b into v then { } take c into v then { } }")

    def test_places(self):
        self.body_breaks("name", "word v; give 1 to v[5];")
        self.body_breaks("name", "channel c; give 1 to c[5];")
        self.body_breaks("constant", "channel c[1]; word v; give 1 to c[v];")

    def test_spreads(self):
        self.body_breaks("constant", "channel c[2]; together for i from 0 to 2 { give 1 to c[i]; }")
        self.body_breaks(
            "constant", "channel c[2]; together for i from 0 to 2 { give 1 to c[i]; } x = 1;"
        )
        self.body_breaks(
            "name", "channel c[2]; together for i from 0 to 2 { give 1 to c[i]; x = 1; }"
        )


class CallOrderTest(RuleTest):
    def check(self, rule, params, arguments, body="", front=""):
        text = f"program p in a; process q({params}) {{ {body} }} main {{ {front} call q({arguments}); }}"
        if rule is None:
            self.keeps(text)
        else:
            self.breaks(rule, text)

    def test_the_process_comes_first(self):
        self.breaks("call", "program p main { call q(x); }")
        self.breaks("call", "program p process q(word x) { call q(y); } main { call q(1); }")

    def test_the_number_comes_before_the_names(self):
        self.check("call", "word x, word x", "1")
        self.check("call", "word x, word x", "y, y, y")
        self.check("name", "word x, word x", "1, 1")
        self.check("call", "word x", "y, y")

    def test_the_names_come_before_the_arguments(self):
        self.check("name", "channel x, word x", "1, 1")
        self.check("name", "word x, word x", "1, 1", front=WORDS_64)
        self.check("call", "channel x, word y", "1, 1")
        self.check("size", "word x, word y", "1, 1", front=WORDS_64)

    def test_the_arguments_come_in_order(self):
        self.check("name", "word x, channel c", "y, 1")
        self.check("call", "word x, channel c", "1, 1")
        self.check("call", "channel c, word x", "1, y")
        self.check("name", "channel c, word x", "a, y")
        self.check("constant", "channel c, word x", "d[2], y", front="channel d[2];")

    def test_a_cell_is_counted_behind_its_argument(self):
        self.check("name", "word x", "y", front=WORDS_64)
        self.check("name", "word x, word y", "1, y", front=WORDS_63)
        self.check("size", "word x, word y", "1, 1", front=WORDS_63)
        self.check("size", "word x, word y", "1, y", front=WORDS_64)
        self.check("size", "word x, channel c", "1, 1", front=WORDS_64)
        self.check("call", "word x, channel c", "1, 1", front=WORDS_63)

    def test_the_body_comes_last(self):
        self.check("constant", "channel c", "d[2]", "y = 1;", "channel d[2];")
        self.check("name", "channel c", "d[1]", "y = 1;", "channel d[2];")
        self.check("size", "word x", "1", "y = 1;", WORDS_64)
        self.check("name", "word x", "1", "y = 1;", WORDS_63)
        self.check("channel", "channel c", "a", "give 1 to c; y = 1;")
        self.check("size", "word x", "1", "array r[0]; y = 1;")
        self.check(None, "word x", "1", "", WORDS_63)

    def test_the_body_comes_before_the_next_statement(self):
        self.breaks("channel", "program p in a; process q() { give 1 to c; } process r(channel c) "
                               "{ give 1 to c; } main { call r(a); call q(); }")
        self.breaks("name", "program p in a; process q() { give 1 to c; } process r(channel c) "
                            "{ give 1 to c; } main { call q(); call r(a); }")


if __name__ == "__main__":
    unittest.main()
