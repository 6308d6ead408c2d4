"""Points 23.1 and 23.2: processors, their memories, and the row of their threads."""

import random
import unittest

from placedanyhow.errors import CodeError
from placedanyhow.homes import Home, Homes
from placedanyhow.images import build_images
from placedanyhow.loader import packets
from placedanyhow.placement import make_plan
from placedanyhow.processor import Processor
from tests.processors import image_of, inner_homes, load, new_plan, new_processor, running, thread, ticks
from tests.support import frozen

LOOP = [("push", 1), ("store", 0), ("jump", 0)]


def parts(threads):
    return [message for _, message in packets(1, image_of(threads))]


class FieldTest(unittest.TestCase):
    def test_a_new_processor(self):
        processor = new_processor()
        self.assertEqual((processor.work, processor.row, processor.sent()), ({}, [], []))
        self.assertLessEqual({"work", "row"}, set(vars(processor)))

    def test_the_example(self):
        core = ("core", 1, ["out"], ("give", 0, ("num", 9)))
        plan = make_plan(core, (2, [(0, 1)]), [1], [0])
        processor = Processor(1, plan, Homes({}, []), 4)
        for _, message in packets(1, build_images(core, plan)[1]):
            self.assertIsNone(processor.receive(message))
        for _ in range(2):
            self.assertIsNone(processor.tick())
        found = [processor.sent(), processor.row, processor.work[0].state]
        self.assertEqual(found, [[(0, ("offer", 0, 9, 0))], [], "waiting"])
        self.assertEqual(processor.sent(), [])

    def test_processors_are_apart(self):
        plan = new_plan()
        one, other = (Processor(1, plan, Homes({}, []), 4) for _ in range(2))
        load(one, {0: thread([("end",)], parent=None)})
        self.assertEqual((other.work, other.row, other.sent()), ({}, [], []))


class LoadingTest(unittest.TestCase):
    def test_thread_0(self):
        code = [("push", n) for n in range(9)] + [("end",)]
        messages = parts({0: thread(code, [2, 5, 9], [5], 7, parent=None)})
        self.assertGreater(len(messages), 3)
        processor = new_processor()
        for message in messages[:-1]:
            processor.receive(message)
            processor.tick()
            self.assertEqual((processor.work, processor.row), ({}, []))
        processor.receive(messages[-1])
        self.assertEqual((list(processor.work), processor.row, processor.sent()), ([0], [0], []))
        work = processor.work[0]
        found = (work.number, work.parent, work.takes, work.gives, work.code, work.cells, work.stack, work.at, work.state)
        self.assertEqual(frozen(found), frozen((0, None, [2, 5, 9], [5], code, [0] * 7, [], 0, "ready")))

    def test_parts_in_any_order(self):
        rng = random.Random(112)
        threads = {0: thread([("push", n) for n in range(20)], parent=None), 2: thread(LOOP, places=1)}
        for _ in range(10):
            messages = parts(threads)
            rng.shuffle(messages)
            processor = new_processor()
            for message in messages[:-1]:
                processor.receive(message)
                self.assertEqual(processor.row, [])
            processor.receive(messages[-1])
            self.assertEqual(processor.row, [0])
            self.assertEqual(processor.work[0].code, threads[0][4])

    def test_without_thread_0(self):
        processor = running({1: thread(LOOP, places=1), 3: thread([("end",)])})
        self.assertEqual((processor.work, processor.row), ({}, []))
        processor.tick()
        processor.receive(("start", 3, []))
        self.assertEqual((list(processor.work), processor.row), ([3], [3]))

    def test_without_any_thread(self):
        processor = new_processor(homes=inner_homes())
        processor.receive(("offer", 2, 7, 5))
        processor.receive(("ask", 2, 4))
        processor.tick()
        self.assertEqual(processor.sent(), [])
        processor.receive(("load", 0, [0], 1))
        self.assertEqual((processor.work, processor.row), ({}, []))
        self.assertEqual(processor.sent(), [(0, ("offered", 2, 4))])
        processor.receive(("accept", 2, 4))
        processor.tick()
        self.assertEqual(processor.sent(), [(0, ("word", 2, 7, 4)), (2, ("taken", 5))])

    def test_messages_before_the_memory_is_loaded(self):
        threads = {0: thread(LOOP, places=1, parent=None), 1: thread(LOOP, [3], places=2), 2: thread(LOOP, places=1)}
        early = [
            ("ask", 2, 5), ("start", 2, []), ("offer", 2, 7, 4), ("start", 1, [9]), ("offer", 3, 8, 6), ("ask", 3, 1),
        ]
        answers = [(2, ("offered", 2, 5)), (1, ("offered", 3, 1))]
        messages = parts(threads)
        rng = random.Random(113)
        for _ in range(20):
            # The early messages come in their order at drawn places before the last part.
            processor = new_processor(homes=inner_homes())
            order = sorted(rng.choices(range(len(messages)), k=len(early)))
            for at, message in enumerate(messages):
                for place, one in zip(order, early):
                    if place == at:
                        processor.receive(one)
                self.assertEqual((processor.work, processor.row, processor.sent()), ({}, [], []))
                processor.receive(message)
            self.assertEqual(processor.row, [0, 2, 1])
            self.assertEqual(processor.work[1].cells, [9, 0])
            self.assertEqual(processor.sent(), answers)

    def test_the_order_of_early_messages(self):
        threads = {0: thread(LOOP, places=1, parent=None), 1: thread(LOOP), 2: thread(LOOP), 3: thread(LOOP)}
        for order in ([1, 2, 3], [3, 2, 1], [2, 3, 1]):
            processor = new_processor(homes={})
            for t in order:
                processor.receive(("start", t, []))
            load(processor, threads)
            self.assertEqual(processor.row, [0] + order)

    def test_an_early_offer_to_an_out_channel(self):
        log = []
        homes = {1: Home("out", []), 0: Home("in", [4])}
        processor = new_processor(0, homes=homes, log=log)
        processor.receive(("offer", 1, 7, 5))
        processor.receive(("ask", 0, 5))
        self.assertEqual((log, homes[1].outputs), ([], []))
        load(processor, {})
        self.assertEqual((log, homes[1].outputs), ([(1, 7)], [7]))
        self.assertEqual(processor.sent(), [(2, ("taken", 5)), (2, ("offered", 0, 5))])

    def test_the_early_messages_may_change_later(self):
        threads = {1: thread(LOOP, [3, 4])}
        words = [7, 8]
        processor = new_processor()
        processor.receive(("start", 1, words))
        words.clear()
        message = parts(threads)[0]
        rest = parts(threads)[1:]
        processor.receive(message)
        message[2].clear()
        for one in rest:
            processor.receive(one)
        self.assertEqual(processor.work[1].cells, [7, 8])

    def test_later_messages_may_change_too(self):
        processor = running({1: thread([("fork", [(5, [3])])], [3, 4]), 2: thread(LOOP, [3])})
        words = [7, 8]
        processor.receive(("start", 1, words))
        words.clear()
        processor.tick()
        gives, words = [3], [6]
        processor.receive(("ended", 1, gives, words))
        self.assertEqual((gives, words), ([3], [6]))
        gives.clear()
        words.clear()
        self.assertEqual(processor.work[1].cells, [6, 8])

    def test_what_is_sent_may_change_later(self):
        processor = running({0: thread([("fork", [(1, [3]), (5, [3])])], [3], parent=None), 1: thread(LOOP, [3])})
        processor.tick()
        found = processor.sent()
        self.assertEqual(found, [(1, ("start", 1, [0])), (2, ("start", 5, [0]))])
        processor.receive(found[0][1])
        found[0][1][2].clear()
        found.clear()
        self.assertEqual(processor.work[1].cells, [0])
        self.assertEqual(processor.work[0].code, [("fork", [(1, [3]), (5, [3])])])

    def test_refused_parts(self):
        processor = new_processor()
        processor.receive(("load", 0, [1, 0, 0, 0], 8))
        for message in (("load", 4, [0], 9), ("load", 3, [0], 8), ("load", 7, [0, 0], 8)):
            self.assertRaises(CodeError, processor.receive, message)
        processor.receive(("load", 4, [0, 0, 1, 15], 8))
        self.assertEqual(processor.row, [0])

    def test_the_plan_may_change_later(self):
        plan = new_plan()
        processor = Processor(1, plan, Homes({}, []), 4)
        plan.threads[5] = 0
        plan.homes[4] = 0
        load(processor, {0: thread([("take", 4)], parent=None), 1: thread([("end",)], parent=5)})
        processor.receive(("start", 1, []))
        ticks(processor, 2)
        self.assertEqual(processor.sent(), [(2, ("ask", 4, 0)), (2, ("ended", 5, [], []))])


class RowTest(unittest.TestCase):
    def rows(self, processor, many):
        """The rows before and behind each of so many ticks."""
        found = ["".join(map(str, processor.row))]
        for _ in range(many):
            processor.tick()
            found.append("".join(map(str, processor.row)))
        return found

    def started(self, codes, turn, order=None):
        """A processor with these codes of threads from 1 on, which are started in an order."""
        threads = {t: thread(code, places=1) for t, code in enumerate(codes, 1)}
        processor = running(threads, turn=turn)
        for t in order or sorted(threads):
            processor.receive(("start", t, []))
        return processor

    def test_turns(self):
        for turn, expected in (
            (1, ["123", "231", "312", "123", "231", "312", "123"]),
            (2, ["123", "123", "231", "231", "312", "312", "123"]),
            (3, ["123", "123", "123", "231", "231", "231", "312"]),
            (100, ["123"] * 7),
        ):
            self.assertEqual(self.rows(self.started([LOOP] * 3, turn), 6), expected)

    def test_the_order_of_starting(self):
        self.assertEqual(self.rows(self.started([LOOP] * 3, 1, [3, 1, 2]), 3), ["312", "123", "231", "312"])

    def test_one_thread_makes_a_step_in_a_tick(self):
        processor = self.started([LOOP, LOOP], 2)
        found = []
        for _ in range(6):
            processor.tick()
            found.append((processor.work[1].at, processor.work[2].at))
        self.assertEqual(found, [(1, 0), (2, 0), (2, 1), (2, 2), (0, 2), (1, 2)])

    def test_a_single_thread(self):
        for turn in (1, 2, 5):
            processor = self.started([LOOP], turn)
            self.assertEqual(self.rows(processor, 7), ["1"] * 8)
            self.assertEqual(processor.work[1].at, 1)

    def test_a_turn_that_is_longer_than_the_code(self):
        short = [("push", 1), ("push", 2), ("stop",)]
        processor = self.started([short, LOOP, short], 50)
        self.assertEqual(self.rows(processor, 4), ["123", "123", "123", "23", "23"])
        self.assertEqual([processor.work[t].at for t in (1, 2, 3)], [3, 1, 0])

    def test_a_thread_that_leaves_the_row_within_its_turn(self):
        for last, state in (
            (("stop",), "stopped"), (("check", 1), "faulted"), (("give", 2), "waiting"), (("take", 2), "waiting"),
            (("either", [(2, 0, 0)]), "waiting"), (("either", []), "stopped"), (("fork", [(2, [])]), "waiting"),
            (("end",), "done"),
        ):
            code = [("push", 1), ("store", 0), ("push", 1), last, ("push", 5)]
            # Thread 1 leaves the row with the second step of a turn of three; thread 2 has a new turn.
            processor = self.started([code, LOOP, LOOP], 3)
            self.assertEqual(
                self.rows(processor, 10),
                ["123", "123", "123", "231", "231", "231", "312", "312", "312", "123", "23"],
            )
            self.assertEqual(processor.work[1].state, state)
            self.assertEqual(self.rows(processor, 6), ["23", "23", "23", "32", "32", "32", "23"])

    def test_the_first_step_leaves_the_row(self):
        processor = self.started([[("end",)], LOOP, [("stop",)]], 2)
        self.assertEqual(self.rows(processor, 6), ["123", "23", "23", "32", "2", "2", "2"])
        self.assertEqual([processor.work[t].state for t in (1, 2, 3)], ["done", "ready", "stopped"])

    def test_no_thread_is_left(self):
        processor = self.started([[("end",)]], 2)
        self.assertEqual(self.rows(processor, 4), ["1", "", "", "", ""])

    def test_a_thread_that_goes_on_stands_at_the_end(self):
        code = [("push", 1), ("give", 2), ("jump", 0)]
        processor = self.started([code, LOOP, LOOP], 2)
        self.assertEqual(self.rows(processor, 3), ["123", "123", "23", "23"])
        processor.receive(("taken", 1))
        self.assertEqual(processor.row, [2, 3, 1])
        # It has a new turn when it is the first one again.
        self.assertEqual(self.rows(processor, 5), ["231", "312", "312", "123", "123", "231"])

    def test_a_turn_goes_on_when_others_come(self):
        processor = self.started([LOOP, LOOP, LOOP], 3, [1])
        processor.tick()
        processor.receive(("start", 2, []))
        self.assertEqual(self.rows(processor, 2), ["12", "12", "21"])
        processor.receive(("start", 3, []))
        self.assertEqual(self.rows(processor, 3), ["213", "213", "213", "132"])

    def test_a_started_thread_stands_at_the_end(self):
        fork = [("fork", [(3, [])]), ("end",)]
        processor = self.started([fork, LOOP, LOOP], 2, [1, 2])
        processor.tick()
        self.assertEqual(processor.row, [2])
        for goal, message in processor.sent():
            self.assertEqual(goal, 1)
            processor.receive(message)
        self.assertEqual(processor.row, [2, 3])
        self.assertEqual(self.rows(processor, 4), ["23", "23", "32", "32", "23"])

    def test_the_steps_of_all_threads(self):
        rng = random.Random(114)
        for _ in range(30):
            many, turn = rng.randrange(1, 5), rng.randrange(1, 6)
            lengths = [rng.randrange(1, 12) for _ in range(many)]
            codes = [[("push", 1)] * (length - 1) + [("end",)] for length in lengths]
            processor = self.started(codes, turn)
            # The order of the steps, one turn after the other.
            row, left, expected = list(range(1, many + 1)), dict(enumerate(lengths, 1)), []
            while row:
                t = row.pop(0)
                taken = min(turn, left[t])
                expected += [t] * taken
                left[t] -= taken
                if left[t]:
                    row.append(t)
            found = []
            while processor.row:
                found.append(processor.row[0])
                processor.tick()
            self.assertEqual(found, expected)


if __name__ == "__main__":
    unittest.main()
