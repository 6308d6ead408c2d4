"""Points 9.1 to 9.3: states, the state at the start, and the ends of threads."""

import unittest

from placedanyhow.names import expand
from placedanyhow.parsing import parse_program
from placedanyhow.states import ends, initial
from tests.parts import SKIP, STOP, alt, cell, give, num, par, put, reached, seq, step, take
from tests.support import frozen, is_plain


class InitialTest(unittest.TestCase):
    def check(self, core, cells, idle, taken, outputs):
        before = frozen(core)
        found = initial(core)
        threads = [("at", [core[3]])] + [("idle",)] * idle
        self.assertEqual(frozen(found), frozen((cells, threads, taken, outputs)))
        self.assertTrue(is_plain(found))
        self.assertEqual(frozen(core), before)

    def test_cells(self):
        for many in (0, 1, 5, 64):
            self.check(("core", many, [], SKIP), [0] * many, 0, [], [])

    def test_one_thread(self):
        for s in (SKIP, seq(), par(), seq(par(), SKIP), alt()):
            self.check(("core", 0, [], s), [], 0, [], [])

    def test_several_threads(self):
        self.check(("core", 0, [], par((1, SKIP))), [], 1, [], [])
        self.check(("core", 0, [], par((1, SKIP), (2, STOP))), [], 2, [], [])
        inner = seq(par((2, SKIP), (3, par((4, SKIP)))))
        self.check(("core", 2, [], seq(par((1, inner), (5, SKIP)), par((6, SKIP)))), [0, 0], 6, [], [])

    def test_threads_inside_of_other_statements(self):
        row = (None, 0, cell(0), par((3, SKIP)))
        body = seq(
            ("if", num(0), par((1, SKIP)), par((2, SKIP))), alt(row),
            ("repeat", num(1), 0, par((4, SKIP), (5, SKIP))),
        )
        self.check(("core", 1, ["in"], body), [0], 5, [0], [])

    def test_channels_of_each_kind(self):
        for channels, taken, outputs in (
            (["in"], [0], []), (["out"], [], [[]]), (["inner"], [], []),
            (["in", "in", "in"], [0, 0, 0], []), (["out", "out"], [], [[], []]),
            (["inner"] * 5, [], []), (["in", "out"], [0], [[]]),
            (["in", "in", "out", "inner", "inner"], [0, 0], [[]]),
            (["inner", "out", "in", "out", "inner", "in", "out"], [0, 0], [[], [], []]),
        ):
            self.check(("core", 1, channels, SKIP), [0], 0, taken, outputs)

    def test_the_lists_of_outputs_are_different_ones(self):
        outputs = initial(("core", 0, ["out", "out"], SKIP))[3]
        outputs[0].append(7)
        self.assertEqual(outputs, [[7], []])
        self.assertEqual(initial(("core", 0, ["out", "out"], SKIP))[3], [[], []])

    def test_a_text(self):
        text = (
            "program p in a, f; out b; main { word x; array r[3]; channel c; channel d[2]; "
            "together { take a into x; { word y; take f into y; give y to c; } } give x to b; }"
        )
        self.check(expand(parse_program(text)), [0] * 5, 2, [0, 0], [[]])

    def test_the_example(self):
        core = ("core", 1, ["in", "out", "inner"], par((1, SKIP), (2, STOP)))
        self.assertEqual(
            initial(core),
            ([0], [("at", [("par", [(1, ("skip",)), (2, ("stop",))])]), ("idle",), ("idle",)], [0], [[]]),
        )
        self.assertEqual(ends(initial(core)), ["running", "idle", "idle"])


class EndsTest(unittest.TestCase):
    def check(self, conditions, expected):
        state = ([0], conditions, [], [])
        before = frozen(state)
        self.assertEqual(frozen(ends(state)), frozen(expected))
        self.assertEqual(frozen(state), before)

    CONDITIONS = (
        (("idle",), "idle"), (("at", [SKIP]), "running"), (("at", [STOP, SKIP]), "running"),
        (("giving", 0, 7, []), "waiting"), (("giving", 0, 7, [SKIP]), "waiting"),
        (("open", [(0, 0, [])], []), "waiting"), (("open", [(0, 0, [SKIP]), (1, 0, [])], [SKIP]), "waiting"),
        (("joining", [], []), "waiting"), (("joining", [1, 2], [SKIP]), "waiting"),
        (("done",), "done"), (("stopped",), "stopped"), (("faulted",), "faulted"),
    )

    def test_each_condition(self):
        for condition, expected in self.CONDITIONS:
            self.check([condition], [expected])

    def test_all_conditions_in_order(self):
        for rows in (self.CONDITIONS, self.CONDITIONS[::-1]):
            self.check([row[0] for row in rows], [row[1] for row in rows])

    def test_along_a_run(self):
        body = par((1, seq(give(0, num(7)), STOP)), (2, take(0, cell(0))), (3, put(cell(1), ("mod", num(1), num(0)))))
        core = ("core", 2, ["inner"], body)
        for redexes, expected in (
            ([], ["running", "idle", "idle", "idle"]),
            (step(0), ["waiting", "running", "running", "running"]),
            (step(0, 1, 1), ["waiting", "waiting", "running", "running"]),
            (step(0, 1, 1, 2, 3), ["waiting", "waiting", "waiting", "faulted"]),
            (step(0, 1, 1, 2, 3) + [("meet", 0, 1, 2)], ["waiting", "running", "done", "faulted"]),
            (step(0, 1, 1, 2, 3) + [("meet", 0, 1, 2)] + step(1), ["waiting", "stopped", "done", "faulted"]),
        ):
            self.assertEqual(ends(reached(self, core, [], *redexes)), expected)

    def test_the_list_is_the_callers(self):
        state = ([], [("done",)], [], [])
        ends(state).clear()
        self.assertEqual(ends(state), ["done"])


if __name__ == "__main__":
    unittest.main()
