"""Point 11.1: runs and their choices."""

import random
import unittest

from placedanyhow.meaning import run, run_from, steps
from placedanyhow.redexes import event, perform, redexes
from placedanyhow.states import initial
from placedanyhow.work import prepare
from tests.cores import draw_core
from tests.parts import SKIP, STOP, alt, cell, give, num, par, put, seq, take
from tests.support import frozen, is_plain

# Thread 1 takes from three threads by an "alt": the order of the redexes decides what it gets.
RACE = ("core", 4, ["inner", "inner", "inner", "out"], par(
    (1, seq(*[alt((None, 0, cell(0), give(3, cell(0))), (None, 1, cell(0), give(3, cell(0))),
                  (None, 2, cell(0), give(3, cell(0)))) for _ in range(3)])),
    (2, give(0, num(10))), (3, give(1, num(11))), (4, give(2, num(12))),
))


def walk(core, inputs, state, choices):
    """A run as the words of point 11.1 say it: its last state, its events, and its redexes."""
    events, done = [], []
    while True:
        found = redexes(core, inputs, state)
        if not found:
            return state, events, done
        number = choices[len(done) % len(choices)] if choices else 0
        done.append(found[number % len(found)])
        happened = event(core, inputs, state, done[-1])
        events += [] if happened is None else [happened]
        state = perform(core, inputs, state, done[-1])


class RunTest(unittest.TestCase):
    def check(self, core, inputs, choices):
        """Tests all three functions, and returns the redexes of the run."""
        passed = (core, inputs, choices)
        before = frozen(passed)
        found = run(core, inputs, choices)
        state, events, done = walk(core, inputs, initial(core), choices)
        self.assertEqual(frozen(found), frozen((state, events)))
        self.assertTrue(is_plain(found))
        self.assertEqual(steps(core, inputs, choices), len(done))
        self.assertIs(type(steps(core, inputs, choices)), int)
        again = run_from(core, inputs, initial(core), choices)
        self.assertEqual(frozen(again), frozen(found))
        self.assertEqual(redexes(core, inputs, state), [])
        self.assertEqual(frozen(passed), before)
        return done

    def outputs(self, choices):
        self.check(RACE, [], choices)
        return run(RACE, [], choices)[0][3][0]

    def test_the_example(self):
        core = prepare("program p in a; out b; main { word x; take a into x; give x + 1 to b; }")
        self.assertEqual(
            run(core, [[5, 6]], []), (([5], [("done",)], [1], [[6]]), [(0, 5), (1, 6)])
        )
        self.assertEqual(steps(core, [[5, 6]], []), 5)

    def test_a_core_that_does_nothing(self):
        self.assertEqual(run(("core", 0, [], seq()), [], []), (([], [("done",)], [], []), []))
        self.assertEqual(steps(("core", 0, [], seq()), [], [7]), 1)
        self.assertEqual(run(("core", 2, ["in"], STOP), [[4]], [3]), (([0, 0], [("stopped",)], [0], []), []))

    def test_no_choices_perform_the_first_redex(self):
        core = ("core", 2, ["out"], par((1, put(cell(0), num(1))), (2, seq(give(0, num(5)), SKIP))))
        self.assertEqual(
            self.check(core, [], []),
            [("step", 0), ("step", 1), ("step", 2), ("step", 2), ("output", 0, 2), ("step", 2), ("end", 0)],
        )
        self.assertEqual(self.check(core, [], [0]), self.check(core, [], []))

    def test_the_choices_decide(self):
        core = ("core", 2, ["out"], par((1, put(cell(0), num(1))), (2, seq(give(0, num(5)), SKIP))))
        self.assertEqual(
            self.check(core, [], [1]),
            [("step", 0), ("step", 2), ("step", 2), ("output", 0, 2), ("step", 2), ("step", 1), ("end", 0)],
        )
        self.assertEqual(
            self.check(core, [], [0, 1, 0]),
            [("step", 0), ("step", 2), ("step", 1), ("step", 2), ("output", 0, 2), ("step", 2), ("end", 0)],
        )

    def test_choices_longer_than_the_run(self):
        core = ("core", 0, [], par((1, SKIP), (2, SKIP)))
        expected = [("step", 0), ("step", 2), ("step", 1), ("end", 0)]
        self.assertEqual(self.check(core, [], [0, 1, 0, 0]), expected)
        self.assertEqual(self.check(core, [], [0, 1, 0, 0, 1, 1, 1, 7]), expected)
        self.assertEqual(self.check(core, [], [0, 1, 0, 0] + [9] * 5000), expected)

    def test_choices_shorter_than_the_run(self):
        core = ("core", 0, [], par((1, seq(SKIP, SKIP)), (2, seq(SKIP, SKIP))))
        steps_of = lambda *threads: [("step", 0)] + [("step", t) for t in threads] + [("end", 0)]
        self.assertEqual(self.check(core, [], [0, 1]), steps_of(2, 1, 2, 1, 2, 1))
        self.assertEqual(self.check(core, [], [0, 1, 1]), steps_of(2, 2, 1, 2, 1, 1))
        self.assertEqual(self.check(core, [], [1, 0]), steps_of(1, 2, 1, 2, 1, 2))

    def test_choices_greater_than_the_number_of_redexes(self):
        core = ("core", 0, [], par((1, SKIP), (2, SKIP), (3, SKIP)))
        steps_of = lambda *threads: [("step", 0)] + [("step", t) for t in threads] + [("end", 0)]
        self.assertEqual(self.check(core, [], [5]), steps_of(3, 2, 1))
        self.assertEqual(self.check(core, [], [3]), steps_of(1, 3, 2))
        self.assertEqual(self.check(core, [], [65536]), steps_of(2, 1, 3))
        self.assertEqual(self.check(core, [], [10 ** 30]), steps_of(2, 1, 3))

    def test_outputs_of_several_runs(self):
        found = {tuple(self.outputs(choices)) for choices in ([], [1], [2], [3], [4], [5, 1, 2], [3, 0], [1, 4, 2])}
        self.assertIn((10, 11, 12), found)
        self.assertGreater(len(found), 2)
        for words in found:
            self.assertEqual(sorted(words), [10, 11, 12])

    def test_events_in_order(self):
        core = ("core", 2, ["in", "out", "inner"], seq(
            take(0, cell(0)),
            par((1, seq(give(2, ("+", cell(0), num(1))), give(1, num(3)))), (2, take(2, cell(1)))),
            give(1, cell(1)), take(0, cell(0)), take(0, cell(0)),
        ))
        last, events = run(core, [[8, 9]], [])
        self.assertEqual(events, [(0, 8), (2, 9), (1, 3), (1, 9), (0, 9)])
        self.assertEqual(last, ([9, 9], [("open", [(0, 0, [])], []), ("done",), ("done",)], [2], [[3, 9]]))

    def test_a_run_that_begins_in_the_middle(self):
        rng = random.Random(11)
        for number in range(60):
            core, inputs = draw_core(rng, alts=number % 2 == 1)
            state = initial(core)
            done = []
            while redexes(core, inputs, state):
                found = redexes(core, inputs, state)
                done.append(rng.choice(found))
                state = perform(core, inputs, state, done[-1])
            middle = initial(core)
            for redex in done[:rng.randrange(len(done) + 1)]:
                middle = perform(core, inputs, middle, redex)
            for choices in ([], [1], [0, 1, 2], [rng.randrange(50) for _ in range(200)]):
                before = frozen((middle, choices))
                found = run_from(core, inputs, middle, choices)
                self.assertEqual(frozen(found), frozen(walk(core, inputs, middle, choices)[:2]))
                self.assertEqual(frozen((middle, choices)), before)

    def test_step_0_is_the_first_step_of_the_run_that_begins_in_the_middle(self):
        core = ("core", 0, [], par((1, seq(SKIP, SKIP)), (2, seq(SKIP, STOP))))
        middle = ([], [("joining", [1, 2], []), ("at", [SKIP]), ("at", [STOP])], [], [])
        self.assertEqual(walk(core, [], middle, [1, 0])[2][0], ("step", 2))
        race = ([0], [("joining", [1, 2, 3], []), ("open", [(0, 0, [STOP]), (1, 0, [SKIP])], []),
                      ("giving", 0, 7, []), ("giving", 1, 8, [])], [], [])
        core = ("core", 1, ["inner", "inner"], par(
            (1, alt((None, 0, cell(0), STOP), (None, 1, cell(0), SKIP))), (2, give(0, num(7))), (3, give(1, num(8))),
        ))
        self.assertEqual(run_from(core, [], race, [0, 1])[1], [(0, 7)])
        self.assertEqual(run_from(core, [], race, [1, 0])[1], [(1, 8)])
        self.assertEqual(run_from(core, [], race, [])[1], [(0, 7)])

    def test_a_run_of_no_steps(self):
        rng = random.Random(12)
        for _ in range(20):
            core, inputs = draw_core(rng, alts=True)
            last = run(core, inputs, [3, 1])[0]
            for choices in ([], [0], [5, 6]):
                self.assertEqual(frozen(run_from(core, inputs, last, choices)), frozen((last, [])))

    def test_lists_may_change_later(self):
        core = ("core", 1, ["in", "out"], seq(take(0, cell(0)), give(1, cell(0))))
        inputs, choices = [[5, 6]], [0, 1]
        found = run(core, inputs, choices)
        kept = frozen(found)
        inputs[0].clear()
        inputs.clear()
        choices.clear()
        self.assertEqual(frozen(found), kept)
        found[1].clear()
        self.assertEqual(run(core, [[5, 6]], [0, 1])[1], [(0, 5), (1, 5)])

    def test_drawn_choices(self):
        rng = random.Random(13)
        for number in range(80):
            core, inputs = draw_core(rng, alts=number % 2 == 1)
            for many in (0, 1, 2, 7, 400):
                self.check(core, inputs, [rng.randrange(rng.choice((2, 5, 70000))) for _ in range(many)])

    def test_a_run_with_much_work(self):
        text = "program p out b; main { word x; repeat 990 while 1 { x = x + 1; } give x to b; }"
        core = prepare(text)
        last, events = run(core, [], [])
        self.assertEqual((last[3], events), ([[990]], [(0, 990)]))
        self.assertEqual(steps(core, [], []), 1 + 990 * 3 + 1 + 2)


if __name__ == "__main__":
    unittest.main()
