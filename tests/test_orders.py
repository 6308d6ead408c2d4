"""Points 10.5 and 11.2: cores without "alt" do not depend on any order. Point 8.3: the measure."""

import random
import unittest

from placedanyhow.meaning import run, steps
from placedanyhow.redexes import event, perform, redexes
from placedanyhow.states import ends, initial
from placedanyhow.work import measure, prepare, work
from tests.cores import draw_core
from tests.support import frozen

LADDER = (
    "program p in a, f; out b, g; "
    "process add(word n, channel c, channel d) { word x; repeat 4 while 1 { take c into x; give x + n to d; } } "
    "main { channel c[4]; "
    "together { call add(1, a, c[0]); call add(2, c[0], c[1]); call add(3, c[1], b); "
    "  call add(10, f, c[2]); call add(20, c[2], c[3]); call add(30, c[3], g); } }"
)


def states_of(rng, core, inputs, most=120):
    """The states of a run that is drawn, as long as they are not too many."""
    state = initial(core)
    found = redexes(core, inputs, state)
    while found and most > 0:
        yield state, found
        most -= 1
        state = perform(core, inputs, state, rng.choice(found))
        found = redexes(core, inputs, state)


class PairsTest(unittest.TestCase):
    """Point 10.5."""

    def check_pairs(self, core, inputs, state, found):
        """Tests all pairs of redexes of a state, and returns their number."""
        threads = [redex[-1] for redex in found]
        self.assertEqual(len(set(threads)), len(threads))
        self.assertEqual(sorted(threads), threads)
        pairs = [(one, two) for i, one in enumerate(found) for two in found[:i]]
        for one, two in pairs:
            ways = []
            for first, second in ((one, two), (two, one)):
                middle = perform(core, inputs, state, first)
                self.assertIn(second, redexes(core, inputs, middle))
                self.assertEqual(event(core, inputs, middle, second), event(core, inputs, state, second))
                ways.append(perform(core, inputs, middle, second))
            self.assertEqual(frozen(ways[0]), frozen(ways[1]))
        return len(pairs)

    def test_drawn_cores(self):
        rng = random.Random(21)
        many, kinds = 0, set()
        for _ in range(150):
            core, inputs = draw_core(rng)
            for state, found in states_of(rng, core, inputs):
                many += self.check_pairs(core, inputs, state, found)
                if len(found) > 1:
                    kinds |= {redex[0] for redex in found}
        self.assertGreater(many, 2000)
        self.assertEqual(kinds, {"step", "meet", "input", "output", "end"})

    def test_a_text(self):
        rng = random.Random(22)
        core = prepare(LADDER)
        for _ in range(5):
            for state, found in states_of(rng, core, [[1, 2, 3], [4, 5, 6, 7]]):
                self.check_pairs(core, [[1, 2, 3], [4, 5, 6, 7]], state, found)


class RunsTest(unittest.TestCase):
    """Point 11.2."""

    def check(self, rng, core, inputs, runs):
        expected = run(core, inputs, [])
        many = steps(core, inputs, [])
        for number in range(runs):
            most = rng.choice((2, 3, 100))
            choices = [rng.randrange(most) for _ in range(rng.choice((1, 2, 5, 200)))]
            last, events = run(core, inputs, choices)
            self.assertEqual(frozen(last), frozen(expected[0]))
            self.assertEqual(steps(core, inputs, choices), many)
            self.assertEqual(sorted(events), sorted(expected[1]))
            for c in range(len(core[2])):
                of_c = [pair for pair in expected[1] if pair[0] == c]
                self.assertEqual([pair for pair in events if pair[0] == c], of_c)
        return expected[1]

    def test_drawn_cores(self):
        rng = random.Random(23)
        events, found = 0, set()
        for _ in range(200):
            core, inputs = draw_core(rng)
            events += len(self.check(rng, core, inputs, 6))
            found |= set(ends(run(core, inputs, [])[0]))
        self.assertGreater(events, 500)
        self.assertEqual(found, {"idle", "waiting", "done", "stopped", "faulted"})

    def test_a_text(self):
        core = prepare(LADDER)
        inputs = [[1, 2, 3], [4, 5, 6, 7]]
        self.check(random.Random(24), core, inputs, 30)
        last = run(core, inputs, [])[0]
        self.assertEqual(last[3], [[7, 8, 9], [64, 65, 66, 67]])
        self.assertEqual(ends(last), ["waiting"] * 4 + ["done"] * 3)


class MeasureTest(unittest.TestCase):
    """Point 8.3."""

    def check(self, rng, core, inputs):
        state = initial(core)
        left = measure(state)
        self.assertEqual(left, work(core[3]))
        many = 0
        found = redexes(core, inputs, state)
        while found:
            for redex in found:
                self.assertLess(measure(perform(core, inputs, state, redex)), left, redex)
            state = perform(core, inputs, state, rng.choice(found))
            left = measure(state)
            many += 1
            found = redexes(core, inputs, state)
        self.assertGreaterEqual(left, 0)
        self.assertLessEqual(many, work(core[3]))

    def test_drawn_cores(self):
        rng = random.Random(25)
        for number in range(150):
            core, inputs = draw_core(rng, alts=number % 2 == 1)
            self.check(rng, core, inputs)
            self.assertLessEqual(steps(core, inputs, [2, 1, 0]), work(core[3]))

    def test_a_text(self):
        self.check(random.Random(26), prepare(LADDER), [[1, 2, 3, 4], [5, 6, 7, 8]])


if __name__ == "__main__":
    unittest.main()
