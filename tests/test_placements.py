"""Points 24.5 and 0.3: the result of a machine is that of the plain meaning, whatever the placement is."""

import random
import unittest

from placedanyhow.errors import PlacedError
from placedanyhow.images import build_images
from placedanyhow.machine import Machine
from placedanyhow.meaning import run
from placedanyhow.placement import make_plan, spread
from placedanyhow.replay import explains, follow
from placedanyhow.states import ends
from placedanyhow.usage import threads_of
from placedanyhow.waits import chain, waits
from placedanyhow.waits import explains as explains_wait
from placedanyhow.work import prepare
from tests.cores import draw_core
from tests.networks import draw_delays, draw_plan, ring, row, star
from tests.programs import draw_text

MANY_TICKS = 10 ** 6
TURNS = (1, 2, 3, 8, 1000)

FILTER = """
program primes out found;
process source(channel to_next) { word n; n = 2; repeat 12 while 1 { give n to to_next; n = n + 1; } }
process filter(channel from_last, channel to_next, channel result) {
  word p; word n;
  take from_last into p; give p to result;
  repeat 12 while 1 { take from_last into n; if n mod p { give n to to_next; } }
}
main {
  channel c[4]; channel r[3]; word x;
  together {
    call source(c[0]);
    call filter(c[0], c[1], r[0]);
    call filter(c[1], c[2], r[1]);
    call filter(c[2], c[3], r[2]);
    together for k from 0 to 2 { word y; take r[k] into y; y = y + k * 0; }
    { word z; repeat 9 while 1 { take c[3] into z; give z to found; } }
  }
}
"""

MERGE = """
program merge in a, b; out c;
process pass(channel one, channel other) { word x; repeat 5 while 1 { take one into x; give x to other; } }
main {
  channel d; channel e; word stopped; word left;
  left = 4;
  together {
    call pass(a, d);
    call pass(b, e);
    { word x; word i;
      repeat 8 while i < 8 {
        either {
          when left take d into x then { left = left - 1; give x to c; }
          take e into x then { give x + 100 to c; }
        }
        i = i + 1;
      }
    }
  }
}
"""

PHILOSOPHERS = """
program dinner out meals;
process fork(channel l, channel r, channel ll, channel rr) {
  word x;
  repeat 4 while 1 { either { take l into x then { take ll into x; } take r into x then { take rr into x; } } }
}
process eater(channel one, channel other, channel one_down, channel other_down) {
  repeat 2 while 1 { give 1 to one; give 1 to other; give 0 to one_down; give 0 to other_down; }
}
main {
  channel u[6]; channel d[6];
  together {
    call fork(u[0], u[5], d[0], d[5]); call fork(u[2], u[1], d[2], d[1]); call fork(u[4], u[3], d[4], d[3]);
    call eater(u[0], u[1], d[0], d[1]); call eater(u[2], u[3], d[2], d[3]); call eater(u[4], u[5], d[4], d[5]);
  }
  give 3 to meals;
}
"""


class PlacementTest(unittest.TestCase):
    def check(self, core, inputs, plan, delays, turn):
        """Runs a machine, compares it with the plain meaning, and returns the state that it led to."""
        machine = Machine(core, plan, inputs, delays=delays, turn=turn)
        self.assertTrue(machine.run(MANY_TICKS))
        images = build_images(core, plan)
        self.assertEqual([machine.memory(p) for p in range(plan.processors)], images)
        self.assertTrue(explains(core, inputs, machine.log, machine.outputs(), machine.ends()))
        state = follow(core, inputs, machine.log)
        self.assertEqual(machine.cells(), state[0])
        return machine

    def check_like_runs(self, rng, core, inputs, machine):
        """Compares a machine of a core without "alt" with some runs."""
        for _ in range(3):
            last = run(core, inputs, [rng.randrange(9) for _ in range(rng.randrange(20))])[0]
            self.assertEqual((machine.outputs(), machine.ends(), machine.cells()), (last[3], ends(last), last[0]))

    def check_waits(self, core, state):
        for t, _ in waits(core, state):
            self.assertTrue(explains_wait(core, state, *chain(core, state, t)))

    def test_drawn_cores_without_alternatives(self):
        rng = random.Random(141)
        found, events = set(), 0
        for _ in range(250):
            core, inputs = draw_core(rng)
            machine = self.check(core, inputs, draw_plan(rng, core), draw_delays(rng), rng.choice(TURNS))
            self.check_like_runs(rng, core, inputs, machine)
            found |= set(machine.ends())
            events += len(machine.log)
        self.assertEqual(found, {"idle", "waiting", "done", "stopped", "faulted"})
        self.assertGreater(events, 500)

    def test_drawn_cores_with_alternatives(self):
        rng = random.Random(142)
        different = 0
        for _ in range(250):
            core, inputs = draw_core(rng, alts=True)
            results = []
            for _ in range(2):
                machine = self.check(core, inputs, draw_plan(rng, core), draw_delays(rng), rng.choice(TURNS))
                results.append((machine.outputs(), machine.ends(), machine.cells()))
                self.check_waits(core, follow(core, inputs, machine.log))
            different += results[0] != results[1]
        # Machines of one core may differ, so the runs that explain them are not all the same.
        self.assertGreater(different, 5)

    def test_texts_on_many_placements(self):
        rng = random.Random(143)
        for text, inputs in ((FILTER, []), (MERGE, [[1, 2, 3, 4, 5, 6], [7, 8, 9]]), (PHILOSOPHERS, [])):
            core = prepare(text)
            plain = "'alt'" not in str(core)
            self.assertIs(plain, text is FILTER)
            many = len(threads_of(core))
            for network in (row(1), row(2), row(6), ring(4), star(6)):
                usual = [k if kind == "inner" else 0 for kind, k in zip(core[2], spread(len(core[2]), network[0]))]
                plans = [make_plan(core, network, spread(many, network[0]), usual)]
                plans += [draw_plan(rng, core) for _ in range(2)]
                for plan in plans:
                    machine = self.check(core, inputs, plan, draw_delays(rng), rng.choice(TURNS))
                    self.check_waits(core, follow(core, inputs, machine.log))
                    if plain:
                        self.check_like_runs(rng, core, inputs, machine)

    def test_the_primes(self):
        core = prepare(FILTER)
        rng = random.Random(144)
        for _ in range(5):
            machine = self.check(core, [], draw_plan(rng, core), draw_delays(rng), rng.choice(TURNS))
            self.assertEqual(machine.outputs(), [[7, 11, 13]])

    def test_the_words_of_a_merge(self):
        core = prepare(MERGE)
        rng = random.Random(145)
        orders = set()
        for _ in range(25):
            machine = self.check(core, [[1, 2, 3, 4, 5], [7, 8, 9]], draw_plan(rng, core), draw_delays(rng), rng.choice(TURNS))
            words = machine.outputs()[0]
            orders.add(tuple(words))
            self.assertEqual([word for word in words if word < 100], [1, 2, 3, 4])
            self.assertEqual([word for word in words if word > 100], [107, 108, 109])
        self.assertGreater(len(orders), 3)

    def test_philosophers_that_wait_in_a_ring(self):
        core = prepare(PHILOSOPHERS)
        rng = random.Random(146)
        kinds = set()
        for _ in range(25):
            machine = self.check(core, [], draw_plan(rng, core), draw_delays(rng), rng.choice(TURNS))
            state = follow(core, [], machine.log)
            self.check_waits(core, state)
            kinds |= {chain(core, state, t)[1][0] for t, _ in waits(core, state)}
            self.assertEqual(machine.outputs(), [[3]] if machine.ends()[0] == "done" else [[]])
        self.assertIn("ring", kinds)

    def test_drawn_programs(self):
        """Texts that are accepted by the rules: all parts of the program at once."""
        rng = random.Random(147)
        accepted, events = 0, 0
        while accepted < 120:
            text = draw_text(rng)
            try:
                core = prepare(text)
            except PlacedError:
                continue
            accepted += 1
            inputs = [[rng.randrange(5) for _ in range(rng.randrange(5))] for _ in range(core[2].count("in"))]
            machine = self.check(core, inputs, draw_plan(rng, core), draw_delays(rng), rng.choice(TURNS))
            state = follow(core, inputs, machine.log)
            self.check_waits(core, state)
            events += len(machine.log)
            if "'alt'" not in str(core):
                self.check_like_runs(rng, core, inputs, machine)
        self.assertGreater(events, 100)


if __name__ == "__main__":
    unittest.main()
