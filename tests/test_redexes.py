"""Points 10.1, 10.3 and 10.4: the redexes of states, what they change, and their events."""

import unittest

from placedanyhow.redexes import event, perform, redexes
from placedanyhow.states import initial
from tests.parts import (
    FAULT, NOTHING, SKIP, STOP, alt, cell, give, num, par, performed, put, reached, seq, step, take,
)
from tests.support import frozen, is_plain

DONE = ("done",)
IDLE = ("idle",)
BOTH = ("joining", [1, 2], [])


class ListTest(unittest.TestCase):
    def check(self, channels, inputs, conditions, expected, taken=None):
        """The redexes of a state with these conditions, of a core with a "par" of all branches."""
        branches = [(t, SKIP) for t in range(1, len(conditions))]
        core = ("core", 4, channels, par(*branches))
        counts = [0] * channels.count("in") if taken is None else taken
        state = ([0] * 4, conditions, counts, [[] for _ in range(channels.count("out"))])
        before = frozen((core, inputs, state))
        found = redexes(core, inputs, state)
        self.assertEqual(frozen(found), frozen(expected))
        self.assertTrue(is_plain(found))
        self.assertEqual(frozen((core, inputs, state)), before)

    def test_at(self):
        for s in (SKIP, STOP, give(0, num(1)), take(0, cell(0)), par(), NOTHING, put(cell(0), FAULT)):
            self.check(["inner"], [], [("at", [s])], [("step", 0)])
            self.check(["inner"], [], [("at", [s, SKIP])], [("step", 0)])

    def test_threads_without_a_redex(self):
        for condition in (IDLE, DONE, ("stopped",), ("faulted",)):
            self.check(["inner"], [], [condition], [])
            self.check(["inner"], [], [condition, ("at", [SKIP]), condition], [("step", 1)])

    def test_by_threads(self):
        conditions = [
            ("at", [SKIP]), ("giving", 1, 7, []), ("open", [(0, 0, [])], []), ("joining", [], [SKIP]),
            ("open", [(2, 1, [])], []), ("at", [STOP]), ("giving", 2, 5, []),
        ]
        self.check(["in", "out", "inner"], [[3]], conditions, [
            ("step", 0), ("output", 1, 1), ("input", 0, 2), ("end", 3), ("meet", 2, 6, 4), ("step", 5),
        ])
        mirrored = [
            ("step", 1), ("meet", 2, 0, 2), ("end", 3), ("input", 0, 4), ("output", 1, 5), ("step", 6),
        ]
        self.check(["in", "out", "inner"], [[3]], conditions[::-1], mirrored)

    def test_by_rows(self):
        rows = [(3, 0, []), (0, 0, []), (2, 0, [SKIP]), (1, 0, [])]
        channels = ["in", "in", "inner", "inner"]
        givers = [("giving", 2, 7, []), ("giving", 3, 8, [])]
        found = [("meet", 3, 2, 0), ("input", 0, 0), ("meet", 2, 1, 0), ("input", 1, 0)]
        self.check(channels, [[1], [2]], [("open", rows, [])] + givers, found)
        self.check(channels, [[1], [2]], [("open", rows[::-1], [])] + givers, found[::-1])
        self.check(channels, [[], [2]], [("open", rows, [])] + givers, found[:1] + found[2:])
        self.check(channels, [[], [2]], [("open", rows, [])] + givers[:1] + [DONE], found[2:])
        self.check(channels, [[], []], [("open", rows, []), DONE, DONE], [])

    def test_giving_on_an_inner_channel(self):
        self.check(["inner"], [], [("giving", 0, 7, [])], [])
        self.check(["inner", "out"], [], [("giving", 0, 7, [SKIP])], [])
        self.check(["out", "inner"], [], [("giving", 0, 7, [SKIP])], [("output", 0, 0)])

    def test_open_without_a_giver(self):
        self.check(["inner", "inner"], [], [("open", [(0, 0, [])], []), ("giving", 1, 7, [])], [])
        self.check(["inner", "inner"], [], [("open", [(0, 0, [])], []), ("at", [give(0, num(1))])], [("step", 1)])

    def test_a_giver_on_either_side(self):
        taker, giver = ("open", [(1, 0, [])], []), ("giving", 1, 7, [])
        self.check(["in", "inner"], [[]], [BOTH, taker, giver], [("meet", 1, 2, 1)])
        self.check(["in", "inner"], [[]], [BOTH, giver, taker], [("meet", 1, 1, 2)])

    def test_inputs(self):
        taker = [("open", [(0, 0, [])], [])]
        for words, taken, is_left in (
            ([], 0, False), ([5], 0, True), ([5], 1, False), ([5, 6], 1, True), ([5, 6], 2, False), ([0], 0, True),
        ):
            self.check(["in"], [words], taker, [("input", 0, 0)] if is_left else [], [taken])

    def test_two_in_channels_have_their_own_inputs(self):
        channels = ["inner", "in", "out", "in"]
        both = [("open", [(1, 0, []), (3, 0, [])], [])]
        for inputs, taken, expected in (
            ([[1], [2]], [0, 0], [("input", 1, 0), ("input", 3, 0)]),
            ([[1], [2]], [1, 0], [("input", 3, 0)]),
            ([[1], [2]], [0, 1], [("input", 1, 0)]),
            ([[1], [2]], [1, 1], []),
            ([[], [2, 3]], [0, 1], [("input", 3, 0)]),
            ([[4, 5, 6], []], [2, 0], [("input", 1, 0)]),
        ):
            self.check(channels, inputs, both, expected, taken)

    def test_joining(self):
        for others, ready in (
            ([DONE, DONE], True), ([DONE, ("at", [SKIP])], False), ([("stopped",), DONE], False),
            ([DONE, ("faulted",)], False), ([("giving", 0, 7, []), DONE], False),
        ):
            steps = step(2) if others[1][0] == "at" else []
            expected = ([("end", 0)] if ready else []) + steps
            self.check(["inner"], [], [BOTH] + others, expected)
            self.check(["inner"], [], [("joining", [1, 2], [STOP])] + others, expected)
        self.check(["inner"], [], [("joining", [], [])], [("end", 0)])
        self.check(["inner"], [], [("joining", [2], []), IDLE, DONE], [("end", 0)])
        self.check(["inner"], [], [("joining", [1], []), DONE, ("stopped",)], [("end", 0)])

    def test_the_list_is_the_callers(self):
        core = ("core", 0, [], SKIP)
        state = initial(core)
        redexes(core, [], state).clear()
        self.assertEqual(redexes(core, [], state), [("step", 0)])


class ExampleTest(unittest.TestCase):
    def test_the_example(self):
        core = ("core", 1, ["inner"], par((1, give(0, num(7))), (2, take(0, cell(0)))))
        state = perform(core, [], initial(core), ("step", 0))
        self.assertEqual(redexes(core, [], state), [("step", 1), ("step", 2)])
        state = perform(core, [], perform(core, [], state, ("step", 1)), ("step", 2))
        meet = ("meet", 0, 1, 2)
        self.assertEqual(redexes(core, [], state), [meet])
        self.assertEqual(event(core, [], state, meet), (0, 7))
        self.assertEqual(perform(core, [], state, meet), ([7], [BOTH, DONE, DONE], [], []))


class PerformTest(unittest.TestCase):
    """The whole state behind a redex, and its event."""

    def check(self, core, inputs, state, redex, happens, expected):
        found = performed(self, core, inputs, state, redex)
        self.assertEqual(frozen(found), frozen(expected))
        before = frozen((core, inputs, state))
        mark = event(core, inputs, state, redex)
        self.assertEqual(frozen(mark), frozen(happens))
        self.assertEqual(frozen((core, inputs, state)), before)

    def meet(self, giver_rest, rows, taker_rest, c, word, cells):
        """Checks a meet on the channel c, and returns the conditions of giver and taker behind it."""
        core = ("core", 3, ["out", "inner", "inner", "in"], par((1, SKIP), (2, SKIP), (3, SKIP)))
        found = []
        for giver, taker in ((1, 2), (2, 1)):
            conditions = [("joining", [1, 2, 3], []), None, None, ("giving", 0, 9, [])]
            conditions[giver] = ("giving", c, word, giver_rest)
            conditions[taker] = ("open", rows, taker_rest)
            state = ([4, 5, 6], conditions, [0], [[8]])
            redex = ("meet", c, giver, taker)
            after = perform(core, [[]], state, redex)
            self.check(core, [[]], state, redex, (c, word), (
                cells, [conditions[0], after[1][1], after[1][2], conditions[3]], [0], [[8]],
            ))
            found.append((after[1][giver], after[1][taker]))
        self.assertEqual(found[0], found[1])
        return found[0]

    def test_meet(self):
        found = self.meet([], [(1, 2, [])], [], 1, 7, [4, 5, 7])
        self.assertEqual(found, (DONE, DONE))
        found = self.meet([SKIP], [(1, 0, [])], [], 1, 0, [0, 5, 6])
        self.assertEqual(found, (("at", [SKIP]), DONE))
        found = self.meet([], [(2, 1, [])], [STOP, SKIP], 2, 65535, [4, 65535, 6])
        self.assertEqual(found, (DONE, ("at", [STOP, SKIP])))

    def test_the_statements_of_the_row_go_in_front(self):
        rows = [(3, 1, [NOTHING]), (1, 2, [STOP]), (2, 0, [SKIP, STOP])]
        found = self.meet([SKIP], rows, [put(cell(0), num(1)), SKIP], 1, 7, [4, 5, 7])
        self.assertEqual(found, (("at", [SKIP]), ("at", [STOP, put(cell(0), num(1)), SKIP])))
        found = self.meet([], rows, [NOTHING], 2, 7, [7, 5, 6])
        self.assertEqual(found, (DONE, ("at", [SKIP, STOP, NOTHING])))
        found = self.meet([], rows, [], 1, 7, [4, 5, 7])
        self.assertEqual(found, (DONE, ("at", [STOP])))

    def test_input(self):
        core = ("core", 2, ["in", "inner", "in"], par((1, SKIP)))
        inputs = [[10, 11, 12], [20, 21]]
        for c, taken, rows, rest, word, cells, behind, condition in (
            (0, [0, 0], [(0, 1, [])], [], 10, [4, 10], [1, 0], DONE),
            (0, [2, 1], [(0, 1, [])], [SKIP], 12, [4, 12], [3, 1], ("at", [SKIP])),
            (2, [0, 0], [(2, 0, [])], [], 20, [20, 5], [0, 1], DONE),
            (2, [3, 1], [(2, 0, [])], [STOP, SKIP], 21, [21, 5], [3, 2], ("at", [STOP, SKIP])),
            (0, [1, 1], [(1, 1, [STOP]), (0, 0, [SKIP]), (2, 1, [])], [], 11, [11, 5], [2, 1], ("at", [SKIP])),
            (2, [1, 1], [(0, 0, [SKIP]), (2, 1, [STOP])], [SKIP], 21, [4, 21], [1, 2], ("at", [STOP, SKIP])),
        ):
            state = ([4, 5], [("joining", [1], []), ("open", rows, rest)], taken, [])
            after = (cells, [("joining", [1], []), condition], behind, [])
            self.check(core, inputs, state, ("input", c, 1), (c, word), after)

    def test_output(self):
        core = ("core", 1, ["inner", "out", "in", "out"], par((1, SKIP)))
        for c, word, rest, outputs, behind, condition in (
            (1, 7, [], [[], []], [[7], []], DONE),
            (3, 7, [], [[], []], [[], [7]], DONE),
            (1, 0, [SKIP, STOP], [[7, 7], [3]], [[7, 7, 0], [3]], ("at", [SKIP, STOP])),
            (3, 65535, [STOP], [[1], [2]], [[1], [2, 65535]], ("at", [STOP])),
        ):
            state = ([4], [("joining", [1], []), ("giving", c, word, rest)], [0], outputs)
            after = ([4], [("joining", [1], []), condition], [0], behind)
            self.check(core, [[6]], state, ("output", c, 1), (c, word), after)

    def test_end(self):
        core = ("core", 1, ["in", "out"], seq(par((1, SKIP), (2, SKIP)), par((3, SKIP))))
        for rest, condition in (([], DONE), ([SKIP], ("at", [SKIP])), ([STOP, SKIP], ("at", [STOP, SKIP]))):
            others = [DONE, DONE, IDLE]
            state = ([4], [("joining", [1, 2], rest)] + others, [1], [[5]])
            self.check(core, [[6]], state, ("end", 0), None, ([4], [condition] + others, [1], [[5]]))
        state = ([4], [("joining", [1, 2], []), DONE, DONE, IDLE], [1], [[5]])
        self.check(core, [[6]], state, ("end", 0), None, ([4], [DONE, DONE, DONE, IDLE], [1], [[5]]))
        empty = ("core", 1, [], par())
        self.check(empty, [], ([4], [("joining", [], [])], [], []), ("end", 0), None, ([4], [DONE], [], []))

    def test_a_step_has_no_event(self):
        for s in (SKIP, give(1, num(7)), give(0, num(7)), take(2, cell(0)), par()):
            core = ("core", 1, ["inner", "out", "in"], s)
            self.assertIsNone(event(core, [[5]], initial(core), ("step", 0)))

    def test_inputs_may_change_later(self):
        core = ("core", 1, ["in", "out"], seq(take(0, cell(0)), give(1, cell(0))))
        inputs = [[5]]
        state = reached(self, core, inputs, *step(0, 0), ("input", 0, 0))
        kept = frozen(state)
        inputs[0][0] = 9
        inputs.clear()
        self.assertEqual(frozen(state), kept)
        state = perform(core, [[]], perform(core, [[]], state, ("step", 0)), ("output", 1, 0))
        self.assertEqual(state, ([5], [DONE], [1], [[5]]))


class WholeTest(unittest.TestCase):
    """Runs by hand, with all redexes on their way."""

    def follow(self, core, inputs, *rows):
        state = initial(core)
        for found, index, after in rows:
            self.assertEqual(redexes(core, inputs, state), found)
            if found:
                state = performed(self, core, inputs, state, found[index])
            self.assertEqual(state[1], after)
        return state

    def test_a_choice_of_two_channels(self):
        rows = [(None, 2, cell(0), give(1, cell(0))), (None, 0, cell(1), STOP)]
        branches = par((1, seq(alt(*rows), SKIP)), (2, give(2, num(7))))
        core = ("core", 2, ["in", "out", "inner"], branches)
        opened = ("open", [(2, 0, [give(1, cell(0))]), (0, 1, [STOP])], [SKIP])
        state = self.follow(
            core, [[5]],
            (step(0), 0, [BOTH, ("at", [seq(alt(*rows), SKIP)]), ("at", [give(2, num(7))])]),
            (step(1, 2), 0, [BOTH, ("at", [alt(*rows), SKIP]), ("at", [give(2, num(7))])]),
            (step(1, 2), 0, [BOTH, opened, ("at", [give(2, num(7))])]),
            ([("input", 0, 1)] + step(2), 1, [BOTH, opened, ("giving", 2, 7, [])]),
            ([("meet", 2, 2, 1), ("input", 0, 1)], 0, [BOTH, ("at", [give(1, cell(0)), SKIP]), DONE]),
            (step(1), 0, [BOTH, ("giving", 1, 7, [SKIP]), DONE]),
            ([("output", 1, 1)], 0, [BOTH, ("at", [SKIP]), DONE]),
            (step(1), 0, [BOTH, DONE, DONE]),
            ([("end", 0)], 0, [DONE, DONE, DONE]),
            ([], 0, [DONE, DONE, DONE]),
        )
        self.assertEqual(state, ([7, 0], [DONE, DONE, DONE], [0], [[7]]))

    def test_branches_in_a_repeat(self):
        block = par((1, take(0, cell(0))))
        body = ("repeat", ("<", cell(0), num(9)), 5, block)
        core = ("core", 1, ["in"], body)
        left = lambda n: ("repeat", ("<", cell(0), num(9)), n, block)
        joining = lambda n: ("joining", [1], [left(n)])
        taking = ("open", [(0, 0, [])], [])
        state = self.follow(
            core, [[3, 9]],
            (step(0), 0, [("at", [block, left(4)]), IDLE]),
            (step(0), 0, [joining(4), ("at", [take(0, cell(0))])]),
            (step(1), 0, [joining(4), taking]),
            ([("input", 0, 1)], 0, [joining(4), DONE]),
            ([("end", 0)], 0, [("at", [left(4)]), DONE]),
            (step(0), 0, [("at", [block, left(3)]), DONE]),
            (step(0), 0, [joining(3), ("at", [take(0, cell(0))])]),
            (step(1), 0, [joining(3), taking]),
            ([("input", 0, 1)], 0, [joining(3), DONE]),
            ([("end", 0)], 0, [("at", [left(3)]), DONE]),
            (step(0), 0, [DONE, DONE]),
            ([], 0, [DONE, DONE]),
        )
        self.assertEqual(state, ([9], [DONE, DONE], [2], []))


if __name__ == "__main__":
    unittest.main()
