"""Point 10.2: what a step of each statement does."""

import unittest

from placedanyhow.redexes import event, perform
from tests.parts import (
    FAULT, NOTHING, SKIP, STOP, alt, at, cell, give, num, par, performed, put, repeat, seq, take, when,
)
from tests.support import frozen

CHANNELS = ["in", "out", "inner", "in", "inner"]
REST = [give(1, cell(0)), SKIP]


class StepTest(unittest.TestCase):
    """Each statement is performed in front of no, one and two other statements of a stack."""

    def check_state(self, s, cells, expected_cells, expected, others=0, started=()):
        """The state after a step; `expected` makes the condition of the thread from its rest."""
        for rest in ([], REST[1:], REST):
            idle = [("idle",)] * others
            core = ("core", len(cells), CHANNELS, s)
            state = (cells, [("at", [s] + rest)] + idle, [2, 0], [[7, 8]])
            found = performed(self, core, [[1, 2, 3], []], state, ("step", 0))
            threads = [expected(rest)] + (list(started) or idle)
            self.assertEqual(frozen(found), frozen((expected_cells, threads, [2, 0], [[7, 8]])))
            self.assertIsNone(event(core, [[1, 2, 3], []], state, ("step", 0)))

    def goes_on(self, s, cells, after=None, ahead=()):
        def expected(rest):
            stack = list(ahead) + rest
            return ("at", stack) if stack else ("done",)
        self.check_state(s, cells, cells if after is None else after, expected)

    def ends(self, s, cells, condition):
        self.check_state(s, cells, cells, lambda rest: (condition,))

    def faults(self, s, cells):
        self.ends(s, cells, "faulted")

    def gives(self, s, cells, c, word):
        self.check_state(s, cells, cells, lambda rest: ("giving", c, word, rest))

    def opens(self, s, cells, *rows):
        self.check_state(s, cells, cells, lambda rest: ("open", list(rows), rest))


class SimpleTest(StepTest):
    def test_skip(self):
        self.goes_on(SKIP, [5])

    def test_stop(self):
        self.ends(STOP, [5], "stopped")


class SetTest(StepTest):
    def test_cells(self):
        self.goes_on(put(cell(0), num(9)), [5, 6], [9, 6])
        self.goes_on(put(cell(1), num(0)), [5, 6], [5, 0])
        self.goes_on(put(cell(1), ("-", cell(0), cell(1))), [5, 6], [5, 65535])
        self.goes_on(put(cell(0), cell(0)), [5, 6])

    def test_items(self):
        self.goes_on(put(at(1, 2, cell(0)), num(9)), [0, 6, 7], [0, 9, 7])
        self.goes_on(put(at(1, 2, cell(0)), num(9)), [1, 6, 7], [1, 6, 9])
        self.goes_on(put(at(1, 2, cell(0)), at(0, 3, cell(0))), [1, 6, 7], [1, 6, 6])

    def test_an_expression_that_faults(self):
        for fault in (FAULT, at(0, 2, num(2)), ("not", FAULT), ("mod", cell(0), cell(1))):
            self.faults(put(cell(0), fault), [5, 0])
            self.faults(put(at(0, 2, cell(1)), fault), [5, 0])

    def test_an_index_that_faults(self):
        self.faults(put(at(1, 2, cell(0)), num(9)), [2, 6, 7])
        self.faults(put(at(1, 2, num(65535)), num(9)), [0, 6, 7])
        self.faults(put(at(1, 2, FAULT), num(9)), [0, 6, 7])
        self.faults(put(at(1, 2, at(1, 2, cell(0))), num(9)), [0, 6, 7])
        self.faults(put(at(1, 2, num(2)), FAULT), [0, 6, 7])

    def test_an_index_that_reads_the_cell_that_is_stored(self):
        target = at(0, 3, at(0, 3, num(0)))
        self.goes_on(put(target, num(7)), [0, 1, 2], [7, 1, 2])
        self.goes_on(put(target, num(0)), [2, 1, 2], [2, 1, 0])
        self.faults(put(target, num(0)), [3, 1, 2])
        self.goes_on(put(at(0, 2, cell(0)), num(1)), [0, 5], [1, 5])
        self.goes_on(put(at(0, 2, cell(1)), num(0)), [5, 1], [5, 0])


class GiveTest(StepTest):
    def test_words(self):
        self.gives(give(2, num(0)), [5], 2, 0)
        self.gives(give(4, ("+", cell(0), num(65535))), [5], 4, 4)
        self.gives(give(1, at(0, 2, cell(0))), [1, 8], 1, 8)

    def test_an_expression_that_faults(self):
        for c in (1, 2):
            self.faults(give(c, FAULT), [5])
            self.faults(give(c, at(0, 1, cell(0))), [5])


class TakeTest(StepTest):
    def test_targets(self):
        for c in (0, 2, 3):
            self.opens(take(c, cell(1)), [5, 6], (c, 1, []))
            self.opens(take(c, at(1, 2, cell(0))), [1, 6, 7], (c, 2, []))

    def test_an_index_that_faults(self):
        for c in (0, 2, 3):
            self.faults(take(c, at(1, 2, cell(0))), [2, 6, 7])
            self.faults(take(c, at(1, 2, FAULT)), [2, 6, 7])


class AltTest(StepTest):
    def test_guards(self):
        first, second, third = (None, 0, cell(0), SKIP), (cell(1), 2, cell(1), STOP), (num(9), 4, cell(2), NOTHING)
        opened = [(0, 0, [SKIP]), (2, 1, [STOP]), (4, 2, [NOTHING])]
        self.opens(alt(first, second, third), [5, 1, 7], *opened)
        self.opens(alt(third, first, second), [5, 65535, 7], opened[2], opened[0], opened[1])
        self.opens(alt(first, second, third), [5, 0, 7], opened[0], opened[2])
        self.opens(alt(second, first), [5, 0, 7], opened[0])
        self.opens(alt(second), [5, 2, 7], opened[1])
        self.opens(alt((num(0), 0, cell(0), SKIP), third), [5, 2, 7], opened[2])

    def test_the_index_of_a_row(self):
        rows = (None, 0, at(1, 2, cell(0)), SKIP), (cell(1), 2, at(0, 2, at(1, 2, cell(0))), STOP)
        self.opens(alt(*rows), [1, 5, 0], (0, 2, [SKIP]), (2, 0, [STOP]))
        self.opens(alt(*rows), [0, 0, 4], (0, 1, [SKIP]))

    def test_a_guard_that_faults(self):
        good, bad = (None, 0, cell(0), SKIP), (FAULT, 2, cell(0), SKIP)
        for rows in ([bad], [good, bad], [bad, good], [(num(0), 0, cell(0), SKIP), bad]):
            self.faults(alt(*rows), [5])
        self.faults(alt(good, (at(0, 1, cell(0)), 2, cell(0), SKIP)), [1])

    def test_an_index_that_faults(self):
        good, bad = (None, 0, cell(0), SKIP), at(0, 1, cell(0))
        for guard in (None, num(1), cell(0), ("not", num(0))):
            self.faults(alt((guard, 2, bad, SKIP)), [1])
            self.faults(alt(good, (guard, 2, bad, SKIP)), [1])
            self.faults(alt((guard, 2, at(0, 1, FAULT), SKIP), good), [1])

    def test_an_index_that_is_not_evaluated(self):
        good = (None, 0, cell(0), SKIP)
        for bad in (at(0, 1, cell(0)), at(0, 1, FAULT)):
            for guard in (num(0), ("not", cell(0)), ("-", cell(0), num(1))):
                self.opens(alt(good, (guard, 2, bad, SKIP)), [1], (0, 0, [SKIP]))
                self.opens(alt((guard, 2, bad, SKIP), good), [1], (0, 0, [SKIP]))
                self.ends(alt((guard, 2, bad, SKIP)), [1], "stopped")

    def test_a_guard_behind_an_index_that_faults(self):
        self.faults(alt((None, 0, at(0, 1, FAULT), SKIP), (num(0), 2, cell(0), SKIP)), [1])

    def test_no_row(self):
        self.ends(alt(), [5], "stopped")
        self.ends(alt((num(0), 0, cell(0), SKIP)), [5], "stopped")
        self.ends(alt((num(0), 0, cell(0), SKIP), (cell(1), 2, cell(1), STOP)), [5, 0], "stopped")


class SeqTest(StepTest):
    def test_statements(self):
        self.goes_on(NOTHING, [5])
        self.goes_on(seq(SKIP), [5], ahead=[SKIP])
        self.goes_on(seq(STOP, NOTHING, SKIP), [5], ahead=[STOP, NOTHING, SKIP])
        self.goes_on(seq(seq(STOP), seq()), [5], ahead=[seq(STOP), seq()])


class IfTest(StepTest):
    def test_both_ways(self):
        for e, cells, first in (
            (num(1), [5], True), (num(0), [5], False), (cell(0), [65535], True), (cell(0), [0], False),
            (("<", cell(0), num(3)), [2], True), (("<", cell(0), num(3)), [3], False),
        ):
            self.goes_on(when(e, STOP, SKIP), cells, ahead=[STOP if first else SKIP])
            self.goes_on(when(e, NOTHING, STOP), cells, ahead=[NOTHING if first else STOP])

    def test_an_expression_that_faults(self):
        self.faults(when(FAULT, SKIP, STOP), [5])
        self.faults(when(at(0, 1, cell(0)), SKIP, STOP), [5])


class RepeatTest(StepTest):
    def test_n_0(self):
        for e in (num(0), num(1), cell(0), FAULT, at(0, 1, num(1))):
            self.goes_on(repeat(0, e, STOP), [5])

    def test_an_expression_that_is_0(self):
        for n in (1, 2, 65535):
            self.goes_on(repeat(n, num(0), STOP), [5])
            self.goes_on(repeat(n, ("-", cell(0), num(5)), STOP), [5])

    def test_an_expression_that_is_not_0(self):
        for n in (1, 2, 3, 65535):
            for e in (num(1), cell(0), ("<", num(1), cell(0))):
                self.goes_on(repeat(n, e, STOP), [5], ahead=[STOP, repeat(n - 1, e, STOP)])

    def test_an_expression_that_faults(self):
        for n in (1, 2, 65535):
            self.faults(repeat(n, FAULT, STOP), [5])
            self.faults(repeat(n, at(0, 1, cell(0)), STOP), [5])


class ParTest(StepTest):
    def test_no_branches(self):
        self.check_state(par(), [5], [5], lambda rest: ("joining", [], rest))

    def test_branches(self):
        for statements in ((STOP,), (SKIP, STOP), (seq(), par(), give(1, FAULT))):
            rows = [(t + 1, s) for t, s in enumerate(statements)]
            joined = [t for t, _ in rows]
            self.check_state(
                par(*rows), [5], [5], lambda rest: ("joining", joined, rest),
                len(rows), [("at", [s]) for s in statements],
            )

    def test_branches_inside_of_a_branch_stay_idle(self):
        inner = par((2, SKIP), (3, STOP))
        self.check_state(
            par((1, inner), (4, SKIP)), [5], [5], lambda rest: ("joining", [1, 4], rest),
            4, [("at", [inner]), ("idle",), ("idle",), ("at", [SKIP])],
        )

    def test_threads_that_are_started_again(self):
        s = par((1, SKIP), (2, STOP))
        state = ([5], [("at", [s]), ("done",), ("done",), ("done",)], [], [])
        found = performed(self, ("core", 1, [], seq(s, par((3, SKIP)))), [], state, ("step", 0))
        self.assertEqual(
            found, ([5], [("joining", [1, 2], []), ("at", [SKIP]), ("at", [STOP]), ("done",)], [], [])
        )


class OtherThreadsTest(unittest.TestCase):
    """A step, also one that faults, changes the conditions of no other threads."""

    OTHERS = [
        ("at", [STOP]), ("giving", 1, 7, [SKIP]), ("done",), ("idle",), ("stopped",), ("faulted",),
        ("open", [(0, 1, [])], []),
    ]
    PARENT = ("joining", [1, 2, 3, 4, 5, 6, 7, 8], [SKIP])

    def test_they_stay(self):
        for s, cells, condition in (
            (SKIP, [3, 0], ("at", [STOP])),
            (STOP, [3, 0], ("stopped",)),
            (put(cell(0), num(9)), [9, 0], ("at", [STOP])),
            (put(cell(0), FAULT), [3, 0], ("faulted",)),
            (give(2, FAULT), [3, 0], ("faulted",)),
            (give(2, cell(0)), [3, 0], ("giving", 2, 3, [STOP])),
            (take(2, at(0, 2, cell(0))), [3, 0], ("faulted",)),
            (take(2, cell(0)), [3, 0], ("open", [(2, 0, [])], [STOP])),
            (alt((FAULT, 2, cell(0), SKIP)), [3, 0], ("faulted",)),
            (alt(), [3, 0], ("stopped",)),
            (when(FAULT, SKIP), [3, 0], ("faulted",)),
            (repeat(1, FAULT, SKIP), [3, 0], ("faulted",)),
            (par(), [3, 0], ("joining", [], [STOP])),
        ):
            branches = [(t, SKIP) for t in range(1, 9)]
            core = ("core", 2, CHANNELS, par(*branches))
            state = ([3, 0], [self.PARENT] + self.OTHERS + [("at", [s, STOP])], [1, 0], [[4]])
            found = performed(self, core, [[1], []], state, ("step", 8))
            self.assertEqual(found, (cells, [self.PARENT] + self.OTHERS + [condition], [1, 0], [[4]]))


class ArgumentsTest(unittest.TestCase):
    def test_a_state_is_not_changed_by_the_steps_behind_it(self):
        body = seq(put(cell(0), num(1)), put(cell(0), num(2)), par((1, SKIP)), give(0, cell(0)))
        core = ("core", 1, ["out"], body)
        states = [([0], [("at", [body]), ("idle",)], [], [[]])]
        kept = [frozen(states[0])]
        for redex in [("step", 0)] * 4 + [("step", 1), ("end", 0), ("step", 0), ("output", 0, 0)]:
            states.append(perform(core, [], states[-1], redex))
            kept.append(frozen(states[-1]))
        self.assertEqual([frozen(state) for state in states], kept)
        self.assertEqual(states[-1], ([2], [("done",), ("done",)], [], [[2]]))


if __name__ == "__main__":
    unittest.main()
