"""Points 5.7 and 5.8: the rules, what just keeps them, and which one decides."""

import unittest

from tests.support import RuleTest, expanded


class DifferentNameTest(RuleTest):
    def test_ins_and_outs(self):
        self.keeps("program p in a, b; out c, d; main { }")
        self.breaks("name", "program p in a, a; main { }")
        self.breaks("name", "program p in a, b, a; main { }")
        self.breaks("name", "program p out a, a; main { }")
        self.breaks("name", "program p in a; out b, a; main { }")

    def test_processes(self):
        self.keeps("program p process q() { } process r() { } main { }")
        self.breaks("name", "program p process q() { } process q() { } main { }")
        self.breaks("name", "program p process q() { } process r() { } process q(word x) { } main { }")

    def test_different_kinds_may_have_the_same_name(self):
        self.keeps("program p in q; process q(word q) { word p; q = p; } main { word q; call q(q); }")
        self.keeps("program p in p; out q; process p() { } process q() { } main { call p(); }")

    def test_parameters_when_the_process_is_called(self):
        for params in ("word x, word x", "word x, channel x", "channel x, word y, channel x"):
            text = f"program p in a, f; process q({params}) {{ }} main {{ {{0}} }}"
            self.keeps(text.replace("{0}", "skip;"))
            arguments = ", ".join("1" if part.startswith("w") else "a" for part in params.split(", "))
            self.breaks("name", text.replace("{0}", f"call q({arguments});"))
        self.keeps("program p process q(word x, word y) { } main { call q(1, 1); }")

    def test_declarations_of_a_block(self):
        kinds = ("word x;", "array x[2];", "channel x;", "channel x[2];")
        for first in kinds:
            for second in kinds:
                self.body_breaks("name", first + " " + second)
                self.body_breaks("name", "{ " + first + " word y; " + second + " }")
                self.body_keeps(first + " { " + second + " }")
                self.body_keeps("{ " + first + " } { " + second + " }")

    def test_declarations_hide_what_is_outside(self):
        self.body_keeps("word a; word b; a = b;")
        self.body_keeps("array a[1]; channel b[1]; a[0] = 1; give a[0] to b[0];")
        self.keeps("program p process q(word x, channel y) { word y; array x[1]; y = x[0]; } "
                   "main { channel c; call q(1, c); }")


class VisibleTest(RuleTest):
    def test_names_that_are_nowhere(self):
        for text in (
            "x = 1;", "x[0] = 1;", "give x to b;", "give x[0] to b;", "give 1 to x;",
            "give 1 to x[0];", "take x into y;", "word y; take x into y;", "take a into x;",
            "take a into x[0];", "if x { }", "repeat 1 while x { }", "word y; y = -x;",
            "word y; y = 1 + x;", "word y; y = x * 0;", "array y[1]; y[x] = 1;",
            "word y; either { take x into y then { } }", "either { take a into x then { } }",
            "word y; either { when x take a into y then { } }", "channel c[2]; give 1 to c[x];",
        ):
            self.body_breaks("name", text)

    def test_a_name_is_visible_to_the_end_of_its_block(self):
        self.body_keeps("{ word x; x = 1; { x = 2; } x = 3; }")
        self.body_breaks("name", "{ word x; x = 1; } x = 2;")
        self.body_breaks("name", "if 1 { word x; } else { x = 1; }")
        self.body_breaks("name", "together { { word x; } x = 1; }")
        self.body_breaks("name", "{ channel c; } give 1 to c;")
        self.body_breaks("name", "{ array r[1]; } r[0] = 1;")
        self.body_breaks("name", "repeat 1 while x { word x; }")
        self.body_breaks("name", "if x { word x; }")
        self.body_breaks("name", "either { take a into x then { word x; } }")

    def test_a_name_is_not_visible_ahead_of_its_declaration(self):
        self.body_breaks("name", "{ x = 1; } { word x; }")
        self.body_breaks("name", "{ { x = 1; } } { word x; x = 1; }")
        self.body_breaks("name", "together { x = 1; { word x; } }")

    def test_an_inner_declaration_hides_an_outer_one(self):
        self.body_keeps("word x; { array x[2]; x[0] = 1; } x = 1;")
        self.body_breaks("name", "word x; { array x[2]; x = 1; }")
        self.body_breaks("name", "word x; { array x[2]; } x[0] = 1;")
        self.body_breaks("name", "word x; { channel x; x = 1; }")
        self.body_breaks("name", "channel c; { word c; give 1 to c; }")
        self.body_breaks("name", "word a; take a into a;")
        self.body_keeps("word x; { channel x; give 1 to x; { word x; x = 1; } } x = x;")

    def test_the_number_of_a_spread(self):
        self.body_keeps("word x; together for i from 1 to 2 { x = i; }")
        self.body_breaks("name", "word x; together for i from 1 to 2 { } x = i;")
        self.body_breaks("name", "together for i from 1 to 2 { i = 1; }")
        self.body_breaks("name", "together for i from 1 to 2 { take a into i; }")
        self.body_breaks("name", "together for i from 1 to 2 { i[0] = 1; }")
        self.body_breaks("name", "word x; together for i from 1 to 2 { x = i[0]; }")
        self.body_breaks("name", "together for i from 1 to 2 { give 1 to i; }")
        self.body_breaks("name", "together for i from 1 to 2 { take i into i; }")
        self.body_keeps("word i; together for j from 1 to 2 { i = j; }")
        self.body_breaks("name", "word i; together for i from 1 to 2 { i = 1; }")
        self.body_keeps("together for a from 1 to 2 { give a to b; }")

    def test_a_process_sees_only_its_parameters(self):
        text = "program p in a; out b; process q(word x, channel c) { word y; {0} } " \
               "main { word z; channel d; together for i from 1 to 1 { call q(z, d); } }"
        for body in ("y = x;", "x = y;", "give x to c;", "take c into x;"):
            self.keeps(text.replace("{0}", body))
        for body in ("y = z;", "y = i;", "take a into y;", "give y to b;", "give y to d;", "i = 1;"):
            self.breaks("name", text.replace("{0}", body))
        self.breaks("name", "program p process q(word x) { } main { word y; call q(1); y = x; }")
        self.breaks("name", "program p process q(word x) { y = 1; } process r(word y) { call q(y); } "
                            "main { call r(1); }")


class KindTest(RuleTest):
    FRONT = "word x; array r[2]; channel c; channel d[2]; together for i from 1 to 1 { "

    def inside_keeps(self, text):
        self.body_keeps(self.FRONT + text + " }")

    def inside_breaks(self, text):
        self.body_breaks("name", self.FRONT + text + " }")

    def test_expressions(self):
        for e in ("x", "i", "r[1]", "r[x]", "r[i]", "r[r[x]]"):
            self.inside_keeps(f"x = {e};")
            self.inside_keeps(f"give {e} to b;")
        for e in ("r", "c", "d", "a", "b", "x[0]", "i[0]", "c[0]", "d[0]", "a[0]", "p", "r[r]", "r[c]"):
            self.inside_breaks(f"x = {e};")
            self.inside_breaks(f"give {e} to b;")
            self.inside_breaks(f"x = 1 + -{e};")
            self.inside_breaks(f"if {e} {{ }}")
            self.inside_breaks(f"repeat 1 while {e} {{ }}")
            self.inside_breaks(f"r[{e}] = 1;")
            self.inside_breaks(f"give 1 to d[{e}];")

    def test_targets(self):
        for place in ("x", "r[0]", "r[x]", "r[i]"):
            self.inside_keeps(f"{place} = 1;")
            self.inside_keeps(f"take a into {place};")
            self.inside_keeps(f"either {{ take a into {place} then {{ }} }}")
        for place in ("i", "r", "c", "d", "a", "b", "x[0]", "i[0]", "c[0]", "d[0]", "a[0]"):
            self.inside_breaks(f"{place} = 1;")
            self.inside_breaks(f"take a into {place};")
            self.inside_breaks(f"either {{ take a into {place} then {{ }} }}")

    def test_channels(self):
        for place in ("c", "d[0]", "d[i]"):
            self.inside_keeps(f"give 1 to {place};")
            self.inside_keeps(f"take {place} into x;")
            self.inside_keeps(f"either {{ take {place} into x then {{ }} }}")
        for place in ("x", "i", "r", "d", "x[0]", "i[0]", "r[0]", "c[0]", "a[0]", "b[0]", "p"):
            self.inside_breaks(f"give 1 to {place};")
            self.inside_breaks(f"take {place} into x;")
            self.inside_breaks(f"either {{ take {place} into x then {{ }} }}")

    def test_arguments(self):
        text = "program p in a; out b; process q(word v) { } process s(channel v) { } main { " \
               + self.FRONT + "{0} } }"
        for e in ("x", "i", "r[0]", "x + i"):
            self.keeps(text.replace("{0}", f"call q({e});"))
        for e in ("r", "c", "d", "a", "d[0]", "y", "x[0]"):
            self.breaks("name", text.replace("{0}", f"call q({e});"))
        for e in ("c", "d[1]", "d[i]", "a", "b"):
            self.keeps(text.replace("{0}", f"call s({e});"))
        for e in ("x", "i", "r", "d", "r[0]", "x[0]", "c[0]", "y", "y[0]", "a[0]"):
            self.breaks("name", text.replace("{0}", f"call s({e});"))


class SizeTest(RuleTest):
    def test_sizes_of_arrays(self):
        for size in (1, 2, 7, 8):
            self.body_keeps(f"array r[{size}];")
            self.body_keeps(f"channel c[{size}];")
        for size in (0, 9, 10, 64, 65535):
            self.body_breaks("size", f"array r[{size}];")
            self.body_breaks("size", f"channel c[{size}];")
            self.body_breaks("size", f"repeat 0 while 0 {{ array r[{size}]; }}")
        self.body_keeps("channel c;")

    def test_300_statements(self):
        self.body_keeps("skip; " * 299)
        self.body_breaks("size", "skip; " * 300)
        self.body_breaks("size", "skip; " * 3000)

    def test_what_counts_as_a_statement(self):
        front = "program p in a, f; out b; process q(word v, channel e) { skip; } process n() { } " \
                "main { word x; array r[8]; channel c; "
        for many, text in (
            (1, "skip;"), (1, "stop;"), (1, "x = 1;"), (1, "give 1 to b;"), (1, "take a into x;"),
            (1, "{ }"), (2, "{ skip; }"), (3, "{ { } { } }"), (1, "{ word y; array s[8]; channel d; }"),
            (1, "together { }"), (3, "together { skip; skip; }"), (4, "together { { skip; } skip; }"),
            (1, "together for i from 1 to 0 { skip; skip; }"),
            (4, "together for i from 1 to 3 { }"), (7, "together for i from 1 to 3 { skip; }"),
            (1, "either { }"), (2, "either { take a into x then { } }"),
            (5, "either { take a into x then { skip; } when x take f into x then { skip; } }"),
            (3, "if x { }"), (3, "if x { } else { }"), (4, "if x { skip; }"),
            (5, "if x { skip; } else { skip; }"), (4, "if x { } else { skip; }"),
            (2, "repeat 5 while x { }"), (3, "repeat 5 while x { skip; }"),
            (2, "repeat 5 while x { word y; array s[8]; }"),
            (3, "call q(1, c);"), (2, "call n();"), (4, "repeat 5 while x { call n(); }"),
            (4, "{ { { x = 1 + 2 * 3 - r[x]; } } }"),
        ):
            self.keeps(front + text + " skip;" * (299 - many) + " }")
            self.breaks("size", front + text + " skip;" * (300 - many) + " }")
            self.keeps(front + "skip; " * (299 - many) + text + " }")
            self.breaks("size", front + "skip; " * (300 - many) + text + " }")

    def test_statements_of_processes_count_for_each_call(self):
        front = "program p process q() { " + "skip; " * 48 + "} process r() { " + "call q(); " * 5 + "} "
        self.keeps(front + "main { call r(); " + "skip; " * 47 + "}")
        self.breaks("size", front + "main { call r(); " + "skip; " * 48 + "}")
        self.breaks("size", front + "main { call r(); call r(); }")

    def test_64_cells(self):
        full = "".join(f"array r{k}[8]; " for k in range(8))
        self.body_keeps(full)
        self.body_breaks("size", full + "word x;")
        self.body_breaks("size", full + "array s[1];")
        self.body_breaks("size", full + "{ word x; }")
        nearly = "".join(f"array r{k}[8]; " for k in range(7)) + "array s[7]; "
        self.body_keeps(nearly + "word x;")
        self.body_keeps(nearly + "{ word x; }")
        self.body_keeps(nearly + "array t[1];")
        self.body_breaks("size", nearly + "array t[2];")
        self.body_breaks("size", nearly + "{ word x; } { word x; }")
        words = "".join(f"word x{k}; " for k in range(64))
        self.body_keeps(words)
        self.body_breaks("size", words + "word y;")
        self.body_keeps(words + "channel c; channel d[8];")

    def test_cells_of_parameters(self):
        for many in (63, 64):
            words = "".join(f"word x{k}; " for k in range(many))
            text = "program p process q(word x) { } process c(channel c) { } main { channel d; " + words
            self.keeps(text + "call c(d); }")
            if many == 63:
                self.keeps(text + "call q(1); }")
                self.breaks("size", text + "call q(1); call q(1); }")
            else:
                self.breaks("size", text + "call q(1); }")

    def test_cells_of_each_branch(self):
        text = "together for i from 1 to {0} { array r[8]; array s[2]; }"
        self.body_keeps("array t[4]; " + text.replace("{0}", "6"))
        self.body_breaks("size", "array t[5]; " + text.replace("{0}", "6"))

    def test_24_channels(self):
        for many, text in ((8, "channel x[8]; "), (1, "channel x; "), (1, "channel x[1]; ")):
            rest = 21 - many
            front = "".join(f"channel c{k}; " for k in range(rest))
            self.body_keeps(front + text)
            self.body_breaks("size", front + text + "channel y;")
            self.body_breaks("size", front + text + "{ channel y[1]; }")
        names = ", ".join(f"a{k}" for k in range(24))
        self.keeps(f"program p in {names}; main {{ }}")
        self.keeps(f"program p out {names}; main {{ }}")
        self.breaks("size", f"program p in {names}, z; main {{ }}")
        self.breaks("size", f"program p out {names}, z; main {{ }}")
        self.breaks("size", f"program p in {names}; out z; main {{ }}")
        self.breaks("size", f"program p in {names}; main {{ channel z; }}")
        self.keeps(f"program p in {names}; main {{ word z; }}")

    def test_channels_of_each_branch(self):
        text = "together for i from 1 to {0} { channel c[2]; channel d; }"
        self.body_keeps(text.replace("{0}", "7"))
        self.body_breaks("size", text.replace("{0}", "8"))

    def test_12_threads(self):
        self.body_keeps("together { " + "skip; " * 11 + "}")
        self.body_breaks("size", "together { " + "skip; " * 12 + "}")
        self.body_keeps("together for i from 1 to 11 { }")
        self.body_breaks("size", "together for i from 1 to 12 { }")
        self.body_breaks("size", "together for i from 0 to 65535 { }")
        self.body_keeps("together { skip; } " * 11)
        self.body_breaks("size", "together { skip; } " * 12)
        self.body_keeps("together { together { " + "skip; " * 10 + "} }")
        self.body_breaks("size", "together { together { " + "skip; " * 11 + "} }")
        self.body_keeps("together { } " * 20)

    def test_6_processes(self):
        for many in (5, 6, 7, 30):
            processes = "".join(f"process q{k}() {{ }} " for k in range(many))
            text = "program p " + processes + "main { }"
            if many <= 6:
                self.keeps(text)
            else:
                self.breaks("size", text)


class CallTest(RuleTest):
    def test_which_processes_may_be_called(self):
        self.breaks("call", "program p main { call q(); }")
        self.breaks("call", "program p main { call p(); }")
        self.breaks("call", "program p in q; main { word r; call q(); }")
        text = "program p process q() { {0} } process r() { {1} } process s() { {2} } main { {3} }"

        def calls(*rows):
            filled = text
            for index, names in enumerate(rows):
                filled = filled.replace("{" + str(index) + "}", " ".join(f"call {n}();" for n in names))
            return filled

        self.keeps(calls("", "q", "rq", "srqsr"))
        self.breaks("call", calls("q", "", "", "q"))
        self.breaks("call", calls("r", "", "", "q"))
        self.breaks("call", calls("", "r", "", "r"))
        self.breaks("call", calls("", "s", "", "r"))
        self.breaks("call", calls("s", "q", "r", "s"))
        self.keeps(calls("s", "s", "s", ""))
        self.keeps(calls("s", "", "r", "s"))

    def test_the_number_of_arguments(self):
        text = "program p process q() { } process r(word x, channel c) { } main { channel d; {0} }"
        self.keeps(text.replace("{0}", "call q(); call r(1, d);"))
        for call in ("call q(1);", "call r();", "call r(1);", "call r(1, d, 1);", "call r(d);"):
            self.breaks("call", text.replace("{0}", call))

    def test_the_argument_of_a_channel(self):
        text = "program p process q(channel c) { } main { channel d; channel e[2]; {0} }"
        for argument in ("d", "e[1]", "(d)", "(e[0])", "e[2 - 1]"):
            self.keeps(text.replace("{0}", f"call q({argument});"))
        for argument in ("1", "-d", "not d", "d + d", "e[0] * 1", "-e[0]", "1 == 1", "0"):
            self.breaks("call", text.replace("{0}", f"call q({argument});"))


class ConstantTest(RuleTest):
    def test_indexes_of_channels(self):
        front = "word x; array r[2]; channel c[3]; together for i from 1 to 2 { {0} }"
        process = "program p process q(channel c) { } process s(word n) { channel c[2]; give 1 to c[n]; } main { "
        for index in ("0", "1", "2", "i", "i - 1", "2 - i", "3 mod 3", "-0", "not 0", "i == 5"):
            self.body_keeps(front.replace("{0}", f"give 1 to c[{index}];"))
            self.body_keeps(front.replace("{0}", f"take c[{index}] into x;"))
            self.body_keeps(front.replace("{0}", f"either {{ take c[{index}] into x then {{ }} }}"))
            self.keeps(process + front.replace("{0}", f"call q(c[{index}]);") + " }")
        for index in (
            "3", "4", "65535", "i + 1 + 1", "-1", "x", "r[0]", "x * 0", "1 / 0", "1 mod (i - i)",
            "0 and x", "i + 2",
        ):
            self.body_breaks("constant", front.replace("{0}", f"give 1 to c[{index}];"))
            self.body_breaks("constant", front.replace("{0}", f"take c[{index}] into x;"))
            self.body_breaks(
                "constant", front.replace("{0}", f"either {{ take c[{index}] into x then {{ }} }}")
            )
            self.breaks("constant", process + front.replace("{0}", f"call q(c[{index}]);") + " }")
        self.breaks("constant", process + "call s(0); }")

    def test_indexes_of_words_may_be_anything(self):
        self.body_keeps("word x; array r[2]; r[x] = r[5]; r[1 / 0] = r[2]; x = r[r[x]];")


class ChannelTest(RuleTest):
    def test_ends(self):
        self.body_keeps("word x; take a into x; give x to b;")
        self.body_breaks("channel", "give 1 to a;")
        self.body_breaks("channel", "word x; take b into x;")
        self.body_breaks("channel", "word x; either { take b into x then { } }")
        self.body_keeps("word x; channel c; give x to c; take c into x;")
        self.body_breaks("channel", "if 0 { give 1 to a; }")

    def test_ends_of_parameters(self):
        front = "program p in a; out b; process q(channel c) { give 1 to c; } " \
                "process r(channel c) { word x; take c into x; } process s(channel c) { } main { {0} }"
        self.keeps(front.replace("{0}", "call q(b); call r(a); call s(a); call s(b);"))
        self.breaks("channel", front.replace("{0}", "call q(a);"))
        self.breaks("channel", front.replace("{0}", "call r(b);"))

    def test_a_hidden_one(self):
        self.body_keeps("channel a; give 1 to a;")
        self.body_keeps("word x; channel b; take b into x;")


class EitherTest(RuleTest):
    def rows(self, *channels):
        rows = " ".join(f"take {channel} into x then {{ }}" for channel in channels)
        return "word x; channel c; channel d[3]; either { " + rows + " }"

    def test_rows_with_the_same_channel(self):
        self.body_keeps(self.rows("a", "f", "c", "d[0]", "d[1]", "d[2]"))
        for channels in (
            ("a", "a"), ("c", "c"), ("c", "a", "c"), ("d[1]", "d[1]"), ("d[1]", "d[2 - 1]"),
            ("d[0]", "d[2]", "a", "d[0]"),
        ):
            self.body_breaks("either", self.rows(*channels))

    def test_guards_do_not_matter(self):
        self.body_breaks(
            "either",
            "word x; either { when 0 take a into x then { } when 1 take a into x then { } }",
        )

    def test_other_eithers_do_not_matter(self):
        self.body_keeps(
            "word x; either { take a into x then { either { take a into x then { } } } } "
            "either { take a into x then { } }"
        )

    def test_the_same_channel_by_two_parameters(self):
        text = "program p in a, f; process q(channel c, channel d) { word x; " \
               "either { take c into x then { } take d into x then { } } } main { call q({0}); }"
        self.keeps(text.replace("{0}", "a, f"))
        self.breaks("either", text.replace("{0}", "a, a"))


class UncalledTest(RuleTest):
    def test_a_process_that_is_not_called_is_not_expanded(self):
        for body in (
            "x = 1;", "word x; word x;", "array r[0];", "call nobody();", "call q();",
            "channel c[2]; give 1 to c[5];", "take d into y;", "skip; " * 400,
            "together for i from 1 to 99 { }",
        ):
            text = "program p process q(word y, word y) { " + body + " } main { {0} }"
            self.keeps(text.replace("{0}", "skip;"))
            self.assertEqual(expanded(text.replace("{0}", "call q(1, 1);"))[0], "RuleError")

    def test_a_process_that_only_such_a_process_calls(self):
        self.keeps("program p process q() { x = 1; } process r() { call q(); } main { }")
        self.breaks("name", "program p process q() { x = 1; } process r() { call q(); } main { call r(); }")

    def test_a_spread_without_numbers_expands_nothing(self):
        self.body_keeps("together for i from 2 to 1 { array r[0]; x = 1; }")
        self.body_breaks("size", "together for i from 2 to 2 { array r[0]; x = 1; }")

    def test_what_never_runs_is_expanded(self):
        self.body_breaks("name", "if 0 { x = 1; }")
        self.body_breaks("name", "repeat 0 while 0 { x = 1; }")
        self.body_breaks("name", "stop; x = 1;")


if __name__ == "__main__":
    unittest.main()
