"""Points 8.1 to 8.3: work, measure, and the way from a text to a core."""

import unittest

from placedanyhow.names import expand
from placedanyhow.parsing import parse_program
from placedanyhow.work import measure, prepare, work
from tests.support import frozen, prepared, rule_error, text_error

SKIP = ("skip",)
STOP = ("stop",)
SET = ("set", ("cell", 0), ("num", 1))
GIVE = ("give", 0, ("num", 1))
TAKE = ("take", 0, ("cell", 0))
ONE = ("num", 1)


def seq(*parts):
    return ("seq", list(parts))


def par(*parts):
    return ("par", [(index + 1, part) for index, part in enumerate(parts)])


def alt(*parts):
    return ("alt", [(None, index, ("cell", 0), part) for index, part in enumerate(parts)])


def repeat(n, s):
    return ("repeat", ONE, n, s)


class WorkTest(unittest.TestCase):
    def check(self, s, expected):
        before = frozen(s)
        self.assertEqual(work(s), expected)
        self.assertIs(type(work(s)), int)
        self.assertEqual(frozen(s), before)

    def test_simple_statements(self):
        for s in (SKIP, STOP, SET):
            self.check(s, 1)
        for s in (GIVE, TAKE):
            self.check(s, 2)

    def test_sequences(self):
        self.check(seq(), 1)
        self.check(seq(SKIP), 2)
        self.check(seq(SKIP, GIVE, TAKE, seq(STOP)), 8)

    def test_branches(self):
        self.check(par(), 2)
        self.check(par(SKIP), 3)
        self.check(par(SKIP, GIVE, seq(SET)), 7)
        self.check(par(par(SKIP), par()), 7)

    def test_alternatives(self):
        self.check(alt(), 2)
        self.check(alt(SKIP), 3)
        self.check(alt(SKIP, seq(GIVE, GIVE), TAKE), 7)
        self.check(alt(seq()), 3)
        self.check(alt(alt(), par()), 4)

    def test_if(self):
        self.check(("if", ONE, SKIP, SKIP), 2)
        self.check(("if", ONE, GIVE, SKIP), 3)
        self.check(("if", ONE, SKIP, GIVE), 3)
        self.check(("if", ONE, seq(), seq(GIVE, TAKE)), 6)

    def test_repeat(self):
        self.check(repeat(0, GIVE), 1)
        self.check(repeat(1, GIVE), 4)
        self.check(repeat(3, GIVE), 10)
        self.check(repeat(65535, SKIP), 131071)

    def test_nested_repeats(self):
        self.check(repeat(2, repeat(3, SKIP)), 1 + 2 * (1 + 7))
        self.check(repeat(2, seq(repeat(3, seq(GIVE)), SKIP)), 1 + 2 * (1 + 1 + (1 + 3 * 4) + 1))
        self.check(repeat(0, repeat(65535, SKIP)), 1)
        self.check(repeat(65535, repeat(65535, repeat(65535, SKIP))),
                   1 + 65535 * (2 + 65535 * (2 + 65535 * 2)))

    def test_expressions_do_not_count(self):
        e = ("at", 0, 2, ("+", ("cell", 0), ("*", ONE, ONE)))
        self.check(("set", e, e), 1)
        self.check(("give", 0, e), 2)
        self.check(("if", e, SKIP, SKIP), 2)
        self.check(("repeat", e, 1, SKIP), 3)
        self.check(("alt", [(e, 0, e, SKIP)]), 3)

    def test_the_example(self):
        self.check(seq(("repeat", ("cell", 0), 3, GIVE), SKIP), 12)


class MeasureTest(unittest.TestCase):
    def check(self, conditions, expected):
        state = ([1, 2], conditions, [0], [[5]])
        before = frozen(state)
        self.assertEqual(measure(state), expected)
        self.assertEqual(frozen(state), before)

    def test_conditions_without_a_measure(self):
        for condition in ("idle", "done", "stopped", "faulted"):
            self.check([(condition,)], 0)
        self.check([("idle",), ("done",), ("stopped",), ("faulted",)], 0)

    def test_at(self):
        self.check([("at", [SKIP])], 1)
        self.check([("at", [GIVE, seq(), repeat(2, SKIP)])], 2 + 1 + 5)

    def test_giving(self):
        self.check([("giving", 3, 9, [])], 1)
        self.check([("giving", 3, 9, [TAKE, SKIP])], 4)

    def test_open(self):
        self.check([("open", [(0, 1, [])], [])], 1)
        self.check([("open", [(0, 1, [])], [GIVE])], 3)
        self.check([("open", [(0, 1, [SKIP]), (1, 1, [seq(GIVE, GIVE)]), (2, 1, [TAKE])], [SET])], 7)
        self.check([("open", [(0, 1, [GIVE, GIVE]), (1, 1, [seq(SKIP)])], [])], 5)

    def test_joining(self):
        self.check([("joining", [1, 2], [])], 1)
        self.check([("joining", [1], [GIVE, SKIP])], 4)

    def test_the_sum_over_the_threads(self):
        self.check(
            [("joining", [1, 2, 3], [SKIP]), ("at", [GIVE]), ("giving", 0, 1, [SKIP]),
             ("open", [(0, 1, [GIVE])], []), ("idle",), ("done",)],
            2 + 2 + 2 + 3,
        )

    def test_at_the_start_it_is_the_work_of_the_body(self):
        core = expand(parse_program(
            "program p in a; out b; main { word x; repeat 3 while 1 { together { take a into x; skip; } } "
            "either { take a into x then { give x to b; } } }"
        ))
        self.check([("at", [core[3]]), ("idle",), ("idle",)], work(core[3]))

    def test_steps_of_a_run_by_hand(self):
        branches = par(GIVE, TAKE)
        for before, after in (
            ([("at", [branches]), ("idle",), ("idle",)],
             [("joining", [1, 2], []), ("at", [GIVE]), ("at", [TAKE])]),
            ([("at", [GIVE])], [("giving", 0, 1, [])]),
            ([("giving", 0, 1, [])], [("done",)]),
            ([("at", [alt(SKIP, GIVE)])], [("open", [(0, 0, [SKIP]), (1, 0, [GIVE])], [])]),
            ([("open", [(0, 0, [SKIP]), (1, 0, [GIVE])], [])], [("at", [GIVE])]),
            ([("at", [repeat(2, SKIP)])], [("at", [SKIP, repeat(1, SKIP)])]),
            ([("at", [repeat(0, SKIP)])], [("done",)]),
            ([("joining", [1], [])], [("done",)]),
            ([("at", [("if", ONE, SKIP, GIVE)])], [("at", [GIVE])]),
        ):
            state = lambda conditions: ([0], conditions, [], [])
            self.assertGreater(measure(state(before)), measure(state(after)))


class PrepareTest(unittest.TestCase):
    def test_the_examples(self):
        self.assertEqual(prepare("program p main { skip; }"), ("core", 0, [], ("seq", [SKIP])))
        self.assertEqual(
            prepared("program p main { repeat 3000 while 1 { skip; } }"), rule_error("work")
        )

    def test_it_returns_what_is_expanded(self):
        text = (
            "program p in a; out b; process q(word x, channel c) { give x to c; } main { word x; "
            "channel d[2]; together { { take a into x; call q(x, d[1]); } { word y; take d[1] into y; "
            "either { when y take d[0] into y then { } } } } give x to b; }"
        )
        self.assertEqual(prepare(text), expand(parse_program(text)))

    def test_the_bound_of_the_work(self):
        text = "program p main { repeat 999 while 1 { skip; } {0} }"
        self.assertEqual(work(expand(parse_program(text.replace("{0}", "skip;")))[3]), 3000)
        self.assertEqual(prepared(text.replace("{0}", "skip;"))[0], "core")
        self.assertEqual(prepared(text.replace("{0}", "skip; skip;")), rule_error("work"))
        self.assertEqual(prepared(text.replace("{0}", "{ }"))[0], "core")
        self.assertEqual(prepared(text.replace("{0}", "{ skip; }")), rule_error("work"))

    def test_the_work_of_what_never_runs_counts(self):
        self.assertEqual(
            prepared("program p main { if 0 { repeat 65535 while 0 { } } }"), rule_error("work")
        )
        self.assertEqual(
            prepared("program p main { repeat 0 while 0 { repeat 65535 while 0 { } } }")[0], "core"
        )

    def test_the_sets_to_zero_count(self):
        text = "program p main { repeat 100 while 1 { array a[8]; array b[8]; array c[8]; {0} } }"
        self.assertEqual(prepared(text.replace("{0}", "skip; skip; skip;"))[0], "core")
        self.assertEqual(
            prepared(text.replace("{0}", "skip; skip; skip; skip;")), rule_error("work")
        )

    WORK = "repeat 65535 while 1 { }"
    USAGE = "together { a = 1; a = 2; }"
    NAME = "nobody = 1;"

    def program(self, *statements):
        return "program p main { word a;\n" + "\n".join(statements) + "\n}"

    def test_the_order_of_the_errors(self):
        for order in (1, -1):
            def of(*statements):
                return prepared(self.program(*statements[::order]))
            self.assertEqual(of(self.WORK), rule_error("work"))
            self.assertEqual(of(self.USAGE), rule_error("usage"))
            self.assertEqual(of(self.NAME), rule_error("name"))
            self.assertEqual(of(self.WORK, self.USAGE), rule_error("usage"))
            self.assertEqual(of(self.WORK, self.NAME), rule_error("name"))
            self.assertEqual(of(self.USAGE, self.NAME), rule_error("name"))
            self.assertEqual(of(self.WORK, self.USAGE, self.NAME), rule_error("name"))
            self.assertEqual(of(self.WORK, self.USAGE, "{ array r[9]; }"), rule_error("size"))

    def test_the_errors_of_the_text_come_first(self):
        for statement in (self.WORK, self.USAGE, self.NAME):
            self.assertEqual(prepared(self.program(statement, "skip")), text_error(4))
            self.assertEqual(prepared(self.program("skip", statement)), text_error(3))
            self.assertEqual(prepared(self.program(statement, "!")), text_error(3))
            self.assertEqual(prepared(self.program(statement, "skip", "70000")), text_error(4))


if __name__ == "__main__":
    unittest.main()
