"""Point 25.1: replaying the events of a machine."""

import random
import unittest

from placedanyhow.meaning import run
from placedanyhow.redexes import event, perform, redexes
from placedanyhow.replay import explains, follow
from placedanyhow.states import ends, initial
from tests.cores import draw_core
from tests.executing import followed
from tests.parts import FAULT, NOTHING, SKIP, alt, cell, give, num, par, put, repeat, seq, take
from tests.support import frozen, is_plain

COPY = ("core", 1, ["in", "out"], seq(take(0, cell(0)), give(1, cell(0))))

# Two pairs of threads that do not meet each other.
PAIRS = (
    "core", 2, ["inner", "inner"],
    par((1, give(0, num(5))), (2, take(0, cell(0))), (3, give(1, num(6))), (4, take(1, cell(1)))),
)
# The word that comes first decides what is given.
FIRST = (
    "core", 1, ["in", "in", "out"],
    alt((None, 0, cell(0), give(2, ("+", cell(0), num(10)))), (None, 1, cell(0), give(2, ("+", cell(0), num(20))))),
)


class FollowTest(unittest.TestCase):
    def follows(self, core, inputs, events):
        """The state, with a test that nothing is modified and that it is the one of another replay."""
        before = frozen((core, inputs, events))
        found = follow(core, inputs, events)
        self.assertEqual(frozen((core, inputs, events)), before)
        self.assertEqual(frozen(found), frozen(followed(core, inputs, events)))
        self.assertTrue(is_plain(found))
        return found

    def test_the_example(self):
        self.assertEqual([follow(COPY, [[4]], [(0, 4)])[3], follow(COPY, [[4]], [(1, 4)])], [[[]], None])
        self.assertIs(explains(COPY, [[4]], [(0, 4), (1, 4)], [[4]], ["done"]), True)

    def test_no_events(self):
        state = self.follows(COPY, [[4]], [])
        self.assertEqual(frozen(state), frozen(([0], [("open", [(0, 0, [])], [give(1, cell(0))])], [0], [[]])))
        state = self.follows(("core", 1, [], seq(put(cell(0), num(3)), SKIP)), [], [])
        self.assertEqual(frozen(state), frozen(([3], [("done",)], [], [])))
        state = self.follows(("core", 1, [], put(cell(0), FAULT)), [], [])
        self.assertEqual(frozen(state), frozen(([0], [("faulted",)], [], [])))

    def test_silent_redexes_behind_the_last_event(self):
        core = ("core", 2, ["in"], seq(take(0, cell(0)), par((1, put(cell(1), cell(0)))), SKIP))
        state = self.follows(core, [[4]], [(0, 4)])
        self.assertEqual(frozen(state), frozen(([4, 4], [("done",), ("done",)], [1], [])))

    def test_a_beginning(self):
        core = ("core", 1, ["in", "out"], repeat(3, num(1), seq(take(0, cell(0)), give(1, cell(0)))))
        events = run(core, [[4, 5]], [])[1]
        self.assertEqual(events, [(0, 4), (1, 4), (0, 5), (1, 5)])
        for many, (taken, outputs) in enumerate([(0, []), (1, []), (1, [4]), (2, [4]), (2, [4, 5])]):
            state = self.follows(core, [[4, 5]], events[:many])
            self.assertEqual((state[2], state[3]), ([taken], [outputs]))

    def test_other_orders(self):
        both = [(0, 5), (1, 6)]
        for events in (both, both[::-1]):
            self.assertEqual(ends(self.follows(PAIRS, [], events)), ["done"] * 5)
        for events in ([(0, 5)], [(1, 6)]):
            self.assertEqual(ends(self.follows(PAIRS, [], events)).count("done"), 2)
        for events in ([(0, 5), (0, 5)], both + both[:1], [(1, 6), (0, 5), (1, 6)]):
            self.assertIsNone(self.follows(PAIRS, [], events))

    def test_orders_that_the_meaning_does_not_allow(self):
        for events in ([(1, 4)], [(1, 4), (0, 4)], [(0, 4), (0, 4)], [(0, 4), (1, 4), (1, 4)], [(0, 4), (1, 4), (0, 4)]):
            self.assertIsNone(self.follows(COPY, [[4, 4]], events))

    def test_a_wrong_word(self):
        for events in ([(0, 5)], [(0, 4), (1, 5)], [(0, 4), (1, 0)], [(0, 0)], [(0, 4), (0, 4)]):
            self.assertIsNone(self.follows(COPY, [[4]], events))
        self.assertIsNone(self.follows(COPY, [[]], [(0, 4)]))

    def test_a_wrong_channel(self):
        for c in (1, 2, 3, 65535):
            self.assertIsNone(self.follows(COPY, [[4]], [(c, 4)]))
        self.assertIsNone(self.follows(PAIRS, [], [(1, 5)]))

    def test_the_events_choose_the_row(self):
        for c, word in ((0, 13), (1, 24)):
            state = self.follows(FIRST, [[3], [4]], [(c, 3 + c), (2, word)])
            self.assertEqual(state[3], [[word]])
        self.assertIsNone(self.follows(FIRST, [[3], [4]], [(0, 3), (2, 24)]))
        self.assertIsNone(self.follows(FIRST, [[3], [4]], [(0, 3), (1, 4)]))

    def test_the_first_silent_redex_is_performed(self):
        # Threads 1 and 2 both have silent redexes: thread 1 ends first, and the order shows in nothing
        # but the order of the redexes of the states between.
        core = ("core", 2, ["out"], par((1, seq(SKIP, put(cell(0), num(1)))), (2, seq(put(cell(1), num(2)), give(0, cell(1))))))
        state = self.follows(core, [], [])
        self.assertEqual(state[0], [1, 2])
        self.assertEqual(redexes(core, [], state), [("output", 0, 2)])

    def test_drawn_runs(self):
        rng = random.Random(131)
        changed = 0
        for number in range(120):
            core, inputs = draw_core(rng, alts=number % 2 == 1)
            choices = [rng.randrange(5) for _ in range(rng.randrange(1, 30))]
            last, events = run(core, inputs, choices)
            state = self.follows(core, inputs, events)
            self.assertEqual(redexes(core, inputs, state), [])
            self.assertEqual(frozen(state), frozen(last))
            for many in range(0, len(events), 3):
                self.follows(core, inputs, events[:many])
            if events:
                other = list(events)
                k = rng.randrange(len(other))
                other[k] = (other[k][0], (other[k][1] + 1) % 65536)
                if self.follows(core, inputs, other) is None:
                    changed += 1
                shuffled = list(events)
                rng.shuffle(shuffled)
                self.follows(core, inputs, shuffled)
        self.assertGreater(changed, 30)

    def test_the_lists_may_change_later(self):
        inputs, events = [[4]], [(0, 4), (1, 4)]
        state = follow(COPY, inputs, events)
        inputs[0].clear()
        events.clear()
        self.assertEqual(state[3], [[4]])


class ExplainsTest(unittest.TestCase):
    def check(self, truth, core, inputs, events, outputs, told):
        before = frozen((core, inputs, events, outputs, told))
        self.assertIs(explains(core, inputs, events, outputs, told), truth)
        self.assertEqual(frozen((core, inputs, events, outputs, told)), before)

    def test_a_run(self):
        self.check(True, COPY, [[4]], [(0, 4), (1, 4)], [[4]], ["done"])
        self.check(True, COPY, [[]], [], [[]], ["waiting"])
        self.check(True, ("core", 0, [], NOTHING), [], [], [], ["done"])

    def test_a_log_that_is_too_short(self):
        self.check(False, COPY, [[4]], [(0, 4)], [[]], ["waiting"])
        self.check(False, COPY, [[4]], [(0, 4)], [[4]], ["done"])
        self.check(False, COPY, [[4]], [], [[]], ["waiting"])
        self.check(False, PAIRS, [], [(0, 5)], [], ["waiting", "done", "done", "waiting", "waiting"])

    def test_a_log_that_is_none_of_a_run(self):
        self.check(False, COPY, [[4]], [(0, 4), (1, 4), (1, 4)], [[4]], ["done"])
        self.check(False, COPY, [[4]], [(1, 4), (0, 4)], [[4]], ["done"])
        self.check(False, COPY, [[4]], [(0, 5), (1, 5)], [[5]], ["done"])

    def test_other_outputs(self):
        for outputs in ([[]], [[5]], [[4, 4]], [[4], []], [], [[0]]):
            self.check(False, COPY, [[4]], [(0, 4), (1, 4)], outputs, ["done"])

    def test_other_ends(self):
        for told in ([], ["waiting"], ["stopped"], ["faulted"], ["idle"], ["running"], ["done", "done"]):
            self.check(False, COPY, [[4]], [(0, 4), (1, 4)], [[4]], told)

    def test_drawn_runs(self):
        rng = random.Random(132)
        for number in range(60):
            core, inputs = draw_core(rng, alts=number % 2 == 1)
            last, events = run(core, inputs, [rng.randrange(7) for _ in range(9)])
            self.check(True, core, inputs, events, last[3], ends(last))
            for k in range(len(events)):
                self.check(False, core, inputs, events[:k], last[3], ends(last))
            self.check(False, core, inputs, events, last[3] + [[]], ends(last))
            self.check(False, core, inputs, events, last[3], ends(last)[1:])


class RunTest(unittest.TestCase):
    def test_what_follows_is_a_run(self):
        """Each state of `follow` is reached by silent redexes and one with the event."""
        rng = random.Random(133)
        for number in range(40):
            core, inputs = draw_core(rng, alts=number % 2 == 1)
            events = run(core, inputs, [2, 0, 1])[1]
            state = initial(core)
            for many in range(len(events) + 1):
                silent = [one for one in redexes(core, inputs, state) if event(core, inputs, state, one) is None]
                while silent:
                    state = perform(core, inputs, state, silent[0])
                    silent = [one for one in redexes(core, inputs, state) if event(core, inputs, state, one) is None]
                self.assertEqual(frozen(follow(core, inputs, events[:many])), frozen(state))
                if many < len(events):
                    fitting = [one for one in redexes(core, inputs, state) if event(core, inputs, state, one) == events[many]]
                    state = perform(core, inputs, state, fitting[0])


if __name__ == "__main__":
    unittest.main()
