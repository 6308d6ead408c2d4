"""The code of threads (point 14.2) does what their statements mean, and so do its words (15.1)."""

import random
import unittest

from placedanyhow.coding import decode, encode
from placedanyhow.meaning import run
from placedanyhow.redexes import redexes
from placedanyhow.states import ends
from tests.cores import draw_core
from tests.executing import Executing, followed


class ExecutionTest(unittest.TestCase):
    def check(self, rng, core, inputs):
        """Executes the code of a core, and returns the ends of its threads."""
        machine = Executing(core, inputs, rng)
        machine.run()
        state = followed(core, inputs, machine.events)
        self.assertIsNotNone(state)
        self.assertEqual(redexes(core, inputs, state), [])
        self.assertEqual(machine.ends(), ends(state))
        self.assertEqual(machine.all_outputs(), state[3])
        self.assertEqual(machine.words(), state[0])
        return state

    def test_drawn_cores_without_alternatives(self):
        rng = random.Random(61)
        found = set()
        for _ in range(300):
            core, inputs = draw_core(rng)
            state = self.check(rng, core, inputs)
            self.assertEqual(state, run(core, inputs, [])[0])
            found |= set(ends(state))
        self.assertEqual(found, {"idle", "waiting", "done", "stopped", "faulted"})

    def test_drawn_cores_with_alternatives(self):
        rng = random.Random(62)
        for _ in range(500):
            core, inputs = draw_core(rng, alts=True)
            self.check(rng, core, inputs)

    def test_the_words_of_drawn_code(self):
        rng = random.Random(63)
        kinds = set()
        for number in range(100):
            core, inputs = draw_core(rng, alts=number % 2 == 1)
            for _, code in Executing(core, inputs, rng).code:
                words = [word for one in code for word in encode(one)]
                self.assertTrue(all(0 <= word <= 65535 for word in words))
                self.assertEqual(decode(words), code)
                kinds |= {one[0] for one in code}
        self.assertEqual(len(kinds), 17)


if __name__ == "__main__":
    unittest.main()
