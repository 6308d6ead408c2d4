"""Points 24.1 to 24.4: machines."""

import random
import unittest

from placedanyhow.images import build_images
from placedanyhow.machine import Machine
from placedanyhow.placement import make_plan
from placedanyhow.usage import threads_of
from tests.cores import draw_core
from tests.networks import draw_delays, draw_plan, ring, row, star
from tests.parts import FAULT, SKIP, STOP, at, cell, give, num, par, put, repeat, seq, take
from tests.simulating import Simulation
from tests.support import frozen

ALONE = (1, [])
# Thread 1 gives 7 to thread 2.
MEETING = ("core", 1, ["inner"], par((1, give(0, num(7))), (2, take(0, cell(0)))))


def machine_of(core, network=ALONE, places=None, homes=None, inputs=(), delays=(), turn=4):
    plan = make_plan(core, network, places or [0] * len(threads_of(core)), homes or [0] * len(core[2]))
    return Machine(core, plan, list(inputs), delays=list(delays), turn=turn)


def watched(machine, ticks):
    """The ticks in which each event, each loaded memory and each new end was seen first."""
    found = {}
    for _ in range(ticks):
        for event in machine.log:
            found.setdefault(event, machine.now)
        for t, end in enumerate(machine.ends()):
            found.setdefault((t, end), machine.now)
        machine.advance()
    return found


class FieldTest(unittest.TestCase):
    def test_a_new_machine(self):
        machine = machine_of(MEETING)
        self.assertEqual((machine.now, machine.log), (0, []))
        self.assertLessEqual({"now", "log"}, set(vars(machine)))
        self.assertEqual((machine.outputs(), machine.ends(), machine.memory(0)), ([], ["idle"] * 3, []))
        self.assertIs(machine.quiet(), False)

    def test_the_example(self):
        core = (
            "core", 1, ["out", "inner"],
            seq(par((1, give(1, num(9))), (2, take(1, cell(0)))), give(0, cell(0))),
        )
        machine = Machine(core, make_plan(core, (2, [(0, 1)]), [0, 1, 0], [0, 1]), [], delays=[2, 1, 5], turn=3)
        found = [machine.run(200), machine.outputs(), machine.ends(), machine.cells(), machine.log]
        self.assertEqual(found, [True, [[9]], ["done", "done", "done"], [9], [(1, 9), (0, 9)]])

    def test_delays_and_turn_are_passed_by_keyword(self):
        core = ("core", 0, [], SKIP)
        plan = make_plan(core, ALONE, [0], [])
        self.assertRaises(TypeError, lambda: Machine(core, plan, [], [1], 4))
        self.assertTrue(Machine(core, plan, [], turn=4, delays=[]).run(1))


class LoadingTest(unittest.TestCase):
    """Point 24.1: how many words of each memory have come in each tick."""

    def loaded(self, machine, ticks, processors):
        found = []
        for _ in range(ticks):
            machine.advance()
            found.append([sum(word is not None for word in machine.memory(p)) for p in range(processors)])
        return found

    def check(self, network, places, delays, expected):
        """The image of the thread has 14 words; those of other processors have one."""
        core = ("core", 1, [], put(cell(0), num(9)))
        machine = machine_of(core, network, places, delays=delays)
        self.assertEqual([machine.memory(p) for p in range(network[0])], [[] for _ in range(network[0])])
        self.assertEqual(self.loaded(machine, len(expected), network[0]), expected)
        images = build_images(core, make_plan(core, network, places, []))
        self.assertEqual([machine.memory(p) for p in range(network[0])], images)

    def test_one_processor(self):
        for delays in ([], [5], [9, 2]):
            self.check(ALONE, [0], delays, [[14]])

    def test_a_neighbour(self):
        two = (2, [(0, 1)])
        self.check(two, [1], [], [[1, 14]])
        self.check(two, [1], [3], [[1, 0], [1, 0], [1, 14]])
        self.check(two, [1], [1, 3], [[1, 8], [1, 8], [1, 14]])
        # The second part is due earlier, but waits for the first one.
        self.check(two, [1], [3, 1], [[1, 0], [1, 0], [1, 14]])
        # Messages to processor 0 itself are not counted.
        self.check(two, [0], [3], [[14, 0], [14, 0], [14, 1]])

    def test_a_row(self):
        # To processor 1: message 0. To processor 2: messages 1 and 2, sent on as messages 3 and 4.
        self.check(row(3), [2], [], [[1, 1, 0], [1, 1, 14]])
        self.check(row(3), [2], [2], [[1, 0, 0], [1, 1, 0], [1, 1, 0], [1, 1, 14]])
        self.check(row(3), [2], [1, 1, 1, 3, 5], [[1, 1, 0], [1, 1, 0], [1, 1, 0], [1, 1, 8], [1, 1, 8], [1, 1, 14]])
        # Message 1 arrives in tick 1 and is sent on as message 3, message 2 in tick 4 as message 4.
        self.check(row(3), [2], [1, 1, 4, 2, 1], [[1, 1, 0], [1, 1, 0], [1, 1, 8], [1, 1, 8], [1, 1, 14]])
        # Message 0 holds up the others of its direction.
        self.check(row(3), [2], [3, 1, 1], [[1, 0, 0]] * 2 + [[1, 1, 0]] * 2 + [[1, 1, 0], [1, 1, 14]])

    def test_a_ring(self):
        # Processor 2 is reached over processor 1, not over 3, and both are as near.
        expected = [[1, 1, 0, 0], [1, 1, 0, 0]] + [[1, 1, 14, 0]] * 6 + [[1, 1, 14, 1]]
        self.check(ring(4), [2], [1, 2, 2, 9, 1, 1], expected)

    def test_a_star(self):
        self.check(star(4), [3], [2, 4, 1, 6], [
            [1, 0, 0, 8], [1, 1, 0, 8], [1, 1, 0, 8], [1, 1, 1, 8], [1, 1, 1, 8], [1, 1, 1, 14],
        ])

    def test_the_words_of_a_memory(self):
        core = ("core", 1, [], put(cell(0), num(9)))
        machine = machine_of(core, (2, [(0, 1)]), [1], delays=[1, 3])
        machine.advance()
        image = [1, 0, 0, 1, 1, 0, 1, 0, 5, 0, 9, 2, 0, 15]
        self.assertEqual(machine.memory(0), [0])
        self.assertEqual(machine.memory(1), image[:8] + [None] * 6)
        machine.run(2)
        self.assertEqual(machine.memory(1), image)


class TickTest(unittest.TestCase):
    """Point 24.2: the ticks of messages, computed by hand."""

    def test_one_thread(self):
        # Tick 1: the image, push. Tick 2: store. Tick 3: end.
        machine = machine_of(("core", 1, [], put(cell(0), num(9))))
        found = []
        while not machine.quiet():
            found.append((machine.now, machine.ends(), machine.cells()))
            self.assertIs(machine.advance(), True)
        self.assertEqual([now for now, _, _ in found], [0, 1, 2])
        self.assertEqual([end for _, end, _ in found], [["idle"], ["running"], ["running"]])
        self.assertEqual((machine.now, machine.ends(), machine.cells()), (3, ["done"], [9]))

    def test_local_messages(self):
        # 1: fork. 2: both start, thread 1 pushes. 3: give. 4: the offer; thread 2 takes. 5: the ask.
        # 6: offered. 7: accept. 8: word, taken; store. 9: thread 2 ends. 10: thread 1 ends. 11: end.
        machine = machine_of(MEETING, turn=10)
        found = watched(machine, 20)
        self.assertEqual(found, {
            (0, "idle"): 0, (1, "idle"): 0, (2, "idle"): 0, (0, "waiting"): 1, (1, "running"): 2, (2, "running"): 2,
            (1, "waiting"): 3, (2, "waiting"): 4, (0, 7): 7, (2, "done"): 9, (1, "done"): 10, (0, "done"): 11,
        })
        self.assertEqual((machine.now, machine.quiet(), machine.cells()), (11, True, [7]))

    def test_messages_over_a_row(self):
        # 2: processor 1 is loaded; 4: processor 2. 3: thread 1 starts, 5: thread 2, which takes at once.
        # 4: give, 5: the offer, 7: the ask, 9: offered, 11: accept, 12: taken, 13: word.
        # Thread 1 ends in tick 12, thread 2 in tick 14, which thread 0 hears in tick 18.
        machine = machine_of(MEETING, row(3), [0, 1, 2], [1], delays=[2])
        found = watched(machine, 30)
        self.assertEqual(found, {
            (0, "idle"): 0, (1, "idle"): 0, (2, "idle"): 0, (0, "waiting"): 1, (1, "running"): 3, (1, "waiting"): 4,
            (2, "waiting"): 5, (0, 7): 11, (1, "done"): 12, (2, "running"): 13, (2, "done"): 14, (0, "done"): 18,
        })
        self.assertEqual((machine.now, machine.quiet()), (18, True))

    def test_a_message_to_a_processor_that_is_not_loaded(self):
        # Processor 1 is loaded by the messages 0 and 1, processor 2 by the message 2 in tick 20. Thread 1
        # starts in tick 2 and starts thread 2, which comes over the link of 1 and 2 in tick 3.
        core = ("core", 0, [], par((1, par((2, SKIP)))))
        network = (3, [(0, 1), (0, 2), (1, 2)])
        machine = machine_of(core, network, [0, 1, 2], delays=[1, 1, 20, 1, 1, 1, 1])
        found = watched(machine, 30)
        self.assertEqual(found, {
            (0, "idle"): 0, (1, "idle"): 0, (2, "idle"): 0, (0, "waiting"): 1, (1, "waiting"): 2, (2, "done"): 20,
            (1, "done"): 21, (0, "done"): 22,
        })
        self.assertEqual(machine.now, 22)

    def test_when_outgoing_messages_are_sent(self):
        core = ("core", 1, ["inner", "inner"], par((1, give(0, num(5))), (2, take(0, cell(0)))))
        machine = machine_of(core, star(3), [0, 0, 0], [1, 2], delays=[1])
        found = watched(machine, 40)
        # All messages have the delay 1, so the ticks are those of local messages: 3: give, 4: the offer;
        # take. 5: the ask. 6: offered. 7: accept. 8: word, taken. 9, 10, 11: the threads end.
        self.assertEqual([found[1, "waiting"], found[2, "waiting"], found[0, 5], machine.now], [3, 4, 7, 11])

    def test_answers_are_sent_before_the_messages_of_steps(self):
        # The order of sending shows in the delays, which differ from message to message.
        rng = random.Random(121)
        core = (
            "core", 2, ["inner", "inner"],
            par((1, seq(*[give(0, num(5)), give(1, num(6))])), (2, seq(take(0, cell(0)), take(1, cell(1))))),
        )
        for _ in range(30):
            places = [rng.randrange(3) for _ in range(3)]
            plan = make_plan(core, row(3), places, [rng.randrange(3), rng.randrange(3)])
            delays = [rng.randrange(1, 5) for _ in range(5)]
            compare(self, core, plan, [], delays, 1)


def compare(test, core, plan, inputs, delays, turn):
    """Tests each tick of a machine against the simulation."""
    machine = Machine(core, plan, inputs, delays=delays, turn=turn)
    other = Simulation(core, plan, inputs, delays, turn)
    while not other.quiet():
        test.assertIs(machine.quiet(), False)
        test.assertIs(machine.advance(), True)
        other.advance()
        test.assertEqual((machine.now, machine.log), (other.now, other.log))
        test.assertEqual([machine.memory(p) for p in range(plan.processors)], other.memories())
        test.assertEqual([processor.row for processor in machine.processors], [p.row for p in other.processors])
    test.assertIs(machine.quiet(), True)
    test.assertIs(machine.advance(), False)
    return machine


class SimulationTest(unittest.TestCase):
    def test_rows_rings_and_stars(self):
        core = (
            "core", 2, ["inner", "in", "out"],
            par((1, seq(take(1, cell(0)), give(0, cell(0)))), (2, seq(take(0, cell(1)), give(2, cell(1)))), (3, STOP)),
        )
        rng = random.Random(125)
        networks = [row(k) for k in range(1, 7)] + [ring(k) for k in range(3, 7)] + [star(k) for k in range(2, 7)]
        for network in networks:
            for delays in ([], [3], [2, 1, 4], draw_delays(rng)):
                places = [rng.randrange(network[0]) for _ in range(4)]
                plan = make_plan(core, network, places, [rng.randrange(network[0]), 0, 0])
                machine = compare(self, core, plan, [[7]], delays, rng.randrange(1, 4))
                self.assertEqual((machine.outputs(), machine.cells()), ([[7]], [7, 7]))

    def test_drawn_cores(self):
        rng = random.Random(122)
        ticks, events = 0, 0
        for number in range(120):
            core, inputs = draw_core(rng, alts=number % 2 == 1)
            machine = compare(self, core, draw_plan(rng, core), inputs, draw_delays(rng), rng.choice((1, 2, 3, 7, 1000)))
            ticks += machine.now
            events += len(machine.log)
        self.assertGreater(ticks, 5000)
        self.assertGreater(events, 100)


class QuietTest(unittest.TestCase):
    def seen(self, machine):
        return frozen((machine.now, machine.log, machine.outputs(), machine.ends(), machine.cells(), machine.memory(0)))

    def test_a_quiet_machine_does_not_change(self):
        stuck = ("core", 1, ["inner"], give(0, num(1)))
        for core in (MEETING, stuck, ("core", 1, [], STOP), ("core", 1, [], put(cell(0), FAULT))):
            machine = machine_of(core, (2, [(0, 1)]), delays=[3])
            self.assertIs(machine.run(100), True)
            before = self.seen(machine)
            for _ in range(3):
                self.assertIs(machine.advance(), False)
                self.assertIs(machine.run(10), True)
                self.assertIs(machine.run(0), True)
                self.assertIs(machine.quiet(), True)
            self.assertEqual(self.seen(machine), before)

    def test_run(self):
        machine = machine_of(MEETING, turn=10)
        self.assertIs(machine.run(0), False)
        self.assertEqual(machine.now, 0)
        self.assertIs(machine.run(1), False)
        self.assertEqual(machine.now, 1)
        self.assertIs(machine.run(9), False)
        self.assertEqual(machine.now, 10)
        self.assertIs(machine.run(1), True)
        self.assertEqual(machine.now, 11)
        self.assertIs(machine.run(1000), True)
        self.assertEqual(machine.now, 11)

    def test_run_up_to_the_tick_in_which_it_is_quiet(self):
        machine = machine_of(MEETING, turn=10)
        self.assertIs(machine.run(11), True)
        self.assertEqual(machine.now, 11)

    def test_parts_and_at_once(self):
        rng = random.Random(123)
        for number in range(30):
            core, inputs = draw_core(rng, alts=number % 2 == 1)
            plan, delays, turn = draw_plan(rng, core), draw_delays(rng), rng.randrange(1, 6)
            whole = Machine(core, plan, inputs, delays=delays, turn=turn)
            self.assertIs(whole.run(10 ** 6), True)
            parts = Machine(core, plan, inputs, delays=delays, turn=turn)
            while parts.now < whole.now:
                before, many = parts.now, rng.randrange(30)
                told = parts.run(many)
                self.assertEqual(parts.now, min(before + many, whole.now))
                self.assertIs(told, parts.now == whole.now)
                self.assertEqual(parts.log, whole.log[:len(parts.log)])
            self.assertEqual(self.seen(parts), self.seen(whole))

    def test_messages_on_the_way(self):
        # Nothing is local and no thread is ready while a message is on a link.
        core = ("core", 0, [], par((1, SKIP)))
        machine = machine_of(core, (2, [(0, 1)]), [0, 1], delays=[4])
        machine.run(2)
        for _ in range(2):
            self.assertIs(machine.quiet(), False)
            self.assertIs(machine.advance(), True)


class EndsTest(unittest.TestCase):
    def test_each_end(self):
        core = (
            "core", 1, ["inner"],
            seq(
                par((1, STOP), (2, put(cell(0), FAULT)), (3, SKIP), (4, give(0, num(1)))),
                par((5, SKIP)),
            ),
        )
        machine = machine_of(core)
        machine.run(100)
        self.assertEqual(machine.ends(), ["waiting", "stopped", "faulted", "done", "waiting", "idle"])

    def test_while_it_runs(self):
        core = ("core", 1, [], seq(par((1, STOP)), SKIP))
        machine = machine_of(core)
        found = [machine.ends()]
        while machine.advance():
            found.append(machine.ends())
        self.assertEqual(found, [["idle", "idle"], ["waiting", "idle"], ["waiting", "stopped"]])

    def test_running(self):
        machine = machine_of(("core", 0, [], repeat(50, num(1), SKIP)))
        machine.run(20)
        self.assertEqual(machine.ends(), ["running"])
        machine.run(1000)
        self.assertEqual(machine.ends(), ["done"])

    def test_a_thread_that_is_started_again(self):
        core = ("core", 1, [], repeat(3, num(1), par((1, put(cell(0), ("+", cell(0), num(1)))))))
        machine = machine_of(core)
        found = []
        while machine.advance():
            if not found or found[-1] != machine.ends():
                found.append(machine.ends())
        once = [["running", "idle"], ["waiting", "idle"], ["waiting", "running"], ["waiting", "done"], ["running", "done"]]
        again = [["waiting", "done"], ["waiting", "running"], ["waiting", "done"], ["running", "done"]]
        self.assertEqual(found, once + again + again + [["done", "done"]])
        self.assertEqual(machine.cells(), [3])


class OutputsTest(unittest.TestCase):
    def test_several_channels(self):
        core = ("core", 0, ["out", "inner", "out", "out"], seq(give(2, num(5)), give(0, num(6)), give(2, num(0))))
        machine = machine_of(core)
        self.assertEqual(machine.outputs(), [[], [], []])
        machine.run(100)
        self.assertEqual(machine.outputs(), [[6], [5, 0], []])
        self.assertEqual(machine.log, [(2, 5), (0, 6), (2, 0)])

    def test_inputs(self):
        core = ("core", 2, ["inner", "in", "out", "in"], seq(take(3, cell(0)), take(1, cell(1)), take(3, cell(0))))
        machine = machine_of(core, inputs=[[7], [8, 9]])
        machine.run(100)
        self.assertEqual((machine.cells(), machine.log), ([9, 7], [(3, 8), (1, 7), (3, 9)]))

    def test_while_it_runs(self):
        core = ("core", 0, ["out"], repeat(5, num(1), give(0, num(5))))
        machine = machine_of(core)
        lengths = []
        while machine.advance():
            lengths.append(len(machine.outputs()[0]))
            self.assertEqual(machine.log, [(0, 5)] * lengths[-1])
        self.assertEqual(sorted(set(lengths)), [0, 1, 2, 3, 4, 5])
        self.assertEqual(lengths, sorted(lengths))


class CellsTest(unittest.TestCase):
    def check(self, core, expected, inputs=()):
        """Tests the cells of quiet machines, and of the plain meaning."""
        rng = random.Random(124)
        for number in range(6):
            many = 1 if number == 0 else 3
            places = [rng.randrange(many) for _ in threads_of(core)]
            homes = [rng.randrange(many) if kind == "inner" else 0 for kind in core[2]]
            machine = machine_of(core, row(many), places, homes, inputs, draw_delays(rng), rng.randrange(1, 5))
            self.assertIs(machine.run(10 ** 5), True)
            self.assertEqual(frozen(machine.cells()), frozen(expected))

    def test_thread_0(self):
        self.check(("core", 3, [], seq(put(cell(0), num(5)), put(cell(2), num(65535)))), [5, 0, 65535])

    def test_cells_that_thread_0_does_not_take(self):
        self.check(("core", 5, [], seq(put(cell(3), num(5)), put(cell(1), cell(3)))), [0, 5, 0, 5, 0])
        self.check(("core", 0, [], SKIP), [])
        self.check(("core", 2, [], SKIP), [0, 0])

    def test_a_thread_that_waits_in_a_branch(self):
        waiting = seq(put(cell(1), num(6)), give(0, num(1)))
        self.check(("core", 3, ["inner"], seq(put(cell(0), num(5)), put(cell(2), num(7)), par((1, waiting)))), [5, 6, 7])

    def test_branches_that_stop_and_fault(self):
        core = (
            "core", 4, [],
            par(
                (1, seq(put(cell(0), num(5)), STOP)), (2, seq(put(cell(1), num(6)), put(cell(1), FAULT))),
                (3, put(at(2, 2, num(0)), num(7))),
            ),
        )
        self.check(core, [5, 6, 7, 0])

    def test_branches_within_branches(self):
        inner = seq(put(cell(3), num(8)), par((2, seq(put(cell(1), num(6)), take(0, cell(2)))), (3, put(cell(4), num(9)))))
        core = ("core", 6, ["inner"], seq(put(cell(0), num(5)), par((1, inner), (4, put(cell(5), num(4))))))
        self.check(core, [5, 6, 0, 8, 9, 4])

    def test_a_branch_that_waits_behind_its_branches(self):
        inner = seq(par((2, put(cell(1), num(6)))), put(cell(1), num(7)), take(0, cell(0)))
        self.check(("core", 2, ["inner"], par((1, inner))), [0, 7])

    def test_thread_0_that_waits_behind_its_branches(self):
        core = ("core", 1, ["inner"], seq(par((1, put(cell(0), num(6)))), put(cell(0), num(7)), give(0, num(1))))
        self.check(core, [7])

    def test_a_cell_that_branches_only_take(self):
        read = seq(give(0, cell(0)), STOP)
        core = ("core", 1, ["out"], seq(put(cell(0), num(5)), par((1, read), (2, SKIP))))
        self.check(core, [5])

    def test_a_word_that_is_waited_for(self):
        core = ("core", 2, ["in"], par((1, seq(take(0, cell(0)), take(0, cell(1)), take(0, cell(0))))))
        self.check(core, [7, 8], [[7, 8]])


class ListTest(unittest.TestCase):
    """Point 0.2 for machines."""

    def setUp(self):
        self.core = (
            "core", 2, ["in", "inner", "out"],
            par((1, seq(take(0, cell(0)), give(1, cell(0)))), (2, seq(take(1, cell(1)), give(2, cell(1))))),
        )
        self.plan = make_plan(self.core, row(3), [0, 1, 2], [0, 1, 0])

    def told(self, machine):
        machine.run(1000)
        return (machine.now, machine.log, machine.outputs(), machine.ends(), machine.cells(), machine.memory(1))

    def new(self):
        return Machine(self.core, self.plan, [[7, 8]], delays=[2, 1, 3], turn=2)

    def test_what_is_passed_is_not_modified(self):
        inputs, delays = [[7, 8]], [2, 1, 3]
        machine = Machine(self.core, self.plan, inputs, delays=delays, turn=2)
        before = frozen((self.core, self.plan.links, self.plan.threads, self.plan.homes, self.plan.hops))
        self.told(machine)
        self.assertEqual((inputs, delays), ([[7, 8]], [2, 1, 3]))
        after = frozen((self.core, self.plan.links, self.plan.threads, self.plan.homes, self.plan.hops))
        self.assertEqual(after, before)

    def test_what_is_passed_may_change_later(self):
        expected = self.told(self.new())
        for ticks in (0, 1, 5, 12):
            inputs, delays = [[7, 8]], [2, 1, 3]
            machine = Machine(self.core, self.plan, inputs, delays=delays, turn=2)
            machine.run(ticks)
            inputs[0][0] = 1
            inputs[0].clear()
            inputs.clear()
            delays[0] = 50
            delays.clear()
            self.assertEqual(self.told(machine), expected)

    def test_the_plan_may_change_later(self):
        expected = self.told(self.new())
        machine = self.new()
        for changed in (self.plan.links, self.plan.threads, self.plan.homes, self.plan.hops[0], self.plan.hops):
            changed.clear()
        self.assertEqual(self.told(machine), expected)

    def test_what_is_returned_may_change_later(self):
        expected = self.told(self.new())
        for ticks in (0, 1, 5, 12, 1000):
            machine = self.new()
            machine.run(ticks)
            for returned in (machine.outputs(), machine.ends(), machine.cells(), machine.memory(0), machine.memory(1)):
                if returned and isinstance(returned[0], list):
                    returned[0].append(9)
                returned.append(9)
            self.assertEqual(self.told(machine), expected)

    def test_machines_are_apart(self):
        one, other = self.new(), self.new()
        expected = self.told(one)
        self.assertEqual((other.now, other.log, other.memory(0)), (0, [], []))
        self.assertEqual(self.told(other), expected)


if __name__ == "__main__":
    unittest.main()
