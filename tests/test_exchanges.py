"""Points 23.3 and 23.4: instructions that concern more than a thread, and messages to threads."""

import itertools
import unittest

from placedanyhow.homes import Home
from tests.processors import inner_homes, running, thread, ticks
from tests.support import frozen

# Thread 1 waits for a word from the channels 2, 4 and 5, whose homes are the processors 1, 2 and 3.
ROWS = [(2, 0, 10), (4, 1, 20), (5, 2, 30)]
EITHER = ("either", ROWS)


class ExchangeTest(unittest.TestCase):
    def started(self, code, takes=(), words=(), places=None, **more):
        """A processor that has thread 1 with this code, which is started with words."""
        processor = running({1: thread(code, takes, places=places, **more), 2: thread([("jump", 0)])}, homes=inner_homes())
        processor.receive(("start", 1, list(words)))
        return processor

    def sends(self, processor, *messages):
        found = processor.sent()
        self.assertEqual(frozen(found), frozen(list(messages)))

    def is_in(self, processor, state, at=None, stack=None, t=1):
        work = processor.work[t]
        self.assertEqual(work.state, state)
        self.assertEqual(processor.row, [t] if state == "ready" else [])
        if at is not None:
            self.assertEqual(work.at, at)
        if stack is not None:
            self.assertEqual(work.stack, list(stack))

    def receives(self, processor, *messages):
        for message in messages:
            before = frozen(message)
            processor.receive(message)
            self.assertEqual(frozen(message), before)


class GiveTest(ExchangeTest):
    def test_the_home_gets_the_offer(self):
        for c, home in ((1, 0), (2, 1), (3, 1), (4, 2), (5, 3)):
            for word in (0, 1, 65535):
                processor = self.started([("push", 8), ("push", word), ("give", c), ("end",)])
                ticks(processor, 2)
                self.sends(processor)
                processor.tick()
                self.sends(processor, (home, ("offer", c, word, 1)))
                self.is_in(processor, "waiting", 3, [8])

    def test_taken(self):
        processor = self.started([("push", 7), ("give", 4), ("end",)])
        ticks(processor, 5)
        self.sends(processor, (2, ("offer", 4, 7, 1)))
        self.is_in(processor, "waiting")
        self.receives(processor, ("taken", 1))
        self.sends(processor)
        self.is_in(processor, "ready", 2, [])
        processor.tick()
        self.is_in(processor, "done")

    def test_an_offer_to_a_home_here_is_sent(self):
        processor = self.started([("push", 7), ("give", 2)])
        ticks(processor, 2)
        self.sends(processor, (1, ("offer", 2, 7, 1)))
        self.receives(processor, ("ask", 2, 4))
        self.sends(processor)


class TakeTest(ExchangeTest):
    def test_the_home_gets_the_ask(self):
        for c, home in ((0, 0), (2, 1), (4, 2), (5, 3)):
            processor = self.started([("push", 8), ("take", c), ("end",)])
            ticks(processor, 2)
            self.sends(processor, (home, ("ask", c, 1)))
            self.is_in(processor, "waiting", None, [8])

    def test_the_word_comes(self):
        for word in (0, 9, 65535):
            processor = self.started([("push", 8), ("take", 5), ("end",), ("stop",)])
            ticks(processor, 4)
            processor.sent()
            self.receives(processor, ("offered", 5, 1))
            self.sends(processor, (3, ("accept", 5, 1)))
            self.is_in(processor, "waiting")
            self.receives(processor, ("word", 5, word, 1))
            self.sends(processor)
            self.is_in(processor, "ready", 2, [8, word])
            processor.tick()
            self.is_in(processor, "done")

    def test_several_takes(self):
        processor = self.started([("take", 4), ("take", 4), ("take", 2), ("calc", "-"), ("end",)])
        for c, home, word in ((4, 2, 30), (4, 2, 20), (2, 1, 5)):
            processor.tick()
            self.sends(processor, (home, ("ask", c, 1)))
            self.receives(processor, ("offered", c, 1))
            self.sends(processor, (home, ("accept", c, 1)))
            self.receives(processor, ("word", c, word, 1))
        processor.tick()
        self.is_in(processor, "ready", 4, [30, 15])

    def test_an_offer_behind_the_word(self):
        processor = self.started([("take", 4), ("push", 1), ("take", 5)])
        processor.tick()
        self.receives(processor, ("offered", 4, 1), ("word", 4, 6, 1))
        processor.sent()
        self.receives(processor, ("offered", 4, 1))
        self.sends(processor)
        self.is_in(processor, "ready", 1, [6])
        ticks(processor, 2)
        # It has accepted no offer since it asked again.
        self.sends(processor, (3, ("ask", 5, 1)))
        self.receives(processor, ("offered", 5, 1))
        self.sends(processor, (3, ("accept", 5, 1)))


class EitherTest(ExchangeTest):
    def waiting(self, words=(1, 1, 1), rows=None):
        processor = self.started([("push", 8), ("either", ROWS if rows is None else rows), ("end",)], [0, 1, 2], words)
        ticks(processor, 2)
        return processor

    def test_the_homes_get_the_asks(self):
        processor = self.waiting()
        self.sends(processor, (1, ("ask", 2, 1)), (2, ("ask", 4, 1)), (3, ("ask", 5, 1)))
        self.is_in(processor, "waiting", None, [8])
        processor = self.waiting(rows=[(5, 2, 30), (0, 0, 3), (2, 1, 10)])
        self.sends(processor, (3, ("ask", 5, 1)), (0, ("ask", 0, 1)), (1, ("ask", 2, 1)))

    def test_rows_that_are_left_out(self):
        asks = [(1, ("ask", 2, 1)), (2, ("ask", 4, 1)), (3, ("ask", 5, 1))]
        for words in itertools.product((0, 1, 2, 65535), repeat=3):
            processor = self.waiting(words)
            self.sends(processor, *[ask for ask, word in zip(asks, words) if word != 0])
            self.is_in(processor, "waiting" if any(words) else "stopped")

    def test_the_place_of_a_row(self):
        # The place is that of the row, whatever the number of the row is.
        processor = self.waiting((0, 0, 5), [(2, 2, 10), (4, 0, 20), (5, 2, 30)])
        self.sends(processor, (1, ("ask", 2, 1)), (3, ("ask", 5, 1)))

    def test_no_row_is_left(self):
        for processor in (self.waiting((0, 0, 0)), self.waiting((1, 1, 1), [])):
            self.sends(processor)
            self.is_in(processor, "stopped")
            ticks(processor, 3)
            self.is_in(processor, "stopped")

    def test_the_first_offer_is_accepted(self):
        answers = [(1, 2), (2, 4), (3, 5)]
        for offered in (2, 4, 5):
            processor = self.waiting()
            processor.sent()
            self.receives(processor, ("offered", offered, 1))
            self.sends(processor, *[(home, ("accept" if c == offered else "cancel", c, 1)) for home, c in answers])
            self.is_in(processor, "waiting")
            # Only the first one is accepted.
            for c in (2, 4, 5):
                self.receives(processor, ("offered", c, 1))
                self.sends(processor)

    def test_the_rows_that_were_asked_are_answered(self):
        processor = self.waiting((1, 0, 1))
        processor.sent()
        self.receives(processor, ("offered", 5, 1))
        self.sends(processor, (1, ("cancel", 2, 1)), (3, ("accept", 5, 1)))
        self.receives(processor, ("cancelled", 2, 1))
        self.is_in(processor, "waiting")
        self.receives(processor, ("word", 5, 6, 1))
        self.is_in(processor, "ready", 30, [8, 6])

    def test_the_answers_in_any_order(self):
        for offered, address in ((2, 10), (4, 20), (5, 30)):
            messages = [("word", c, 77, 1) if c == offered else ("cancelled", c, 1) for c in (2, 4, 5)]
            for order in itertools.permutations(messages):
                processor = self.waiting()
                self.receives(processor, ("offered", offered, 1))
                processor.sent()
                for message in order[:2]:
                    self.receives(processor, message)
                    self.is_in(processor, "waiting", None, [8])
                self.receives(processor, order[2])
                self.is_in(processor, "ready", address, [8, 77])
                self.sends(processor)

    def test_an_offer_while_the_answers_come(self):
        processor = self.waiting()
        self.receives(processor, ("offered", 4, 1))
        processor.sent()
        self.receives(processor, ("word", 4, 77, 1), ("offered", 2, 1))
        self.sends(processor)
        self.receives(processor, ("cancelled", 2, 1), ("offered", 5, 1), ("cancelled", 5, 1))
        self.sends(processor)
        self.is_in(processor, "ready", 20, [8, 77])

    def test_an_offer_behind_the_answers(self):
        processor = self.waiting((1, 1, 0))
        self.receives(processor, ("offered", 2, 1), ("word", 2, 5, 1), ("cancelled", 4, 1))
        processor.sent()
        self.receives(processor, ("offered", 4, 1))
        self.sends(processor)
        self.is_in(processor, "ready", 10, [8, 5])

    def test_one_row(self):
        processor = self.waiting((0, 1, 0))
        self.receives(processor, ("offered", 4, 1))
        self.sends(processor, (2, ("ask", 4, 1)), (2, ("accept", 4, 1)))
        self.receives(processor, ("word", 4, 0, 1))
        self.is_in(processor, "ready", 20, [8, 0])

    def test_it_asks_again(self):
        code = [("either", [(2, 0, 2), (4, 0, 0)]), ("stop",), ("jump", 0)]
        processor = self.started(code, [0], [1])
        for offered, address in ((4, 0), (2, 2), (4, 0)):
            while processor.work[1].state == "ready":
                processor.tick()
            self.sends(processor, (1, ("ask", 2, 1)), (2, ("ask", 4, 1)))
            self.receives(processor, ("offered", offered, 1))
            kinds = ["accept" if c == offered else "cancel" for c in (2, 4)]
            self.sends(processor, (1, (kinds[0], 2, 1)), (2, (kinds[1], 4, 1)))
            self.receives(processor, ("word", offered, 3, 1), ("cancelled", 6 - offered, 1))
            self.is_in(processor, "ready", address)
        self.assertEqual(processor.work[1].stack, [3, 3, 3])


class ForkTest(ExchangeTest):
    def test_the_threads_get_their_takes(self):
        fork = ("fork", [(2, [7, 9]), (5, []), (4, [8]), (6, [9, 3])])
        processor = self.started([fork, ("end",)], [3, 7, 8, 9], [10, 20, 0, 65535], 6)
        processor.tick()
        self.sends(
            processor,
            (1, ("start", 2, [20, 65535])), (2, ("start", 5, [])), (0, ("start", 4, [0])), (3, ("start", 6, [65535, 10])),
        )
        self.is_in(processor, "waiting", 1, [])

    def test_without_rows(self):
        processor = self.started([("push", 5), ("fork", []), ("end",)])
        ticks(processor, 2)
        self.sends(processor)
        self.is_in(processor, "ready", 2, [5])
        processor.tick()
        self.is_in(processor, "done")

    def test_a_fork_without_rows_is_a_step_of_its_turn(self):
        processor = running({1: thread([("fork", []), ("jump", 0)]), 2: thread([("jump", 0)])}, turn=2)
        self.receives(processor, ("start", 1, []), ("start", 2, []))
        rows = []
        for _ in range(4):
            processor.tick()
            rows.append(list(processor.row))
        self.assertEqual(rows, [[1, 2], [2, 1], [2, 1], [1, 2]])

    def test_the_threads_end_in_any_order(self):
        ended = [("ended", 1, [7], [70]), ("ended", 1, [], []), ("ended", 1, [9, 3], [90, 0])]
        for order in itertools.permutations(ended):
            processor = self.started([("fork", [(4, []), (5, []), (6, [])]), ("end",)], [3, 7, 8, 9], [1, 2, 3, 4], 6)
            processor.tick()
            processor.sent()
            cells = {3: 1, 7: 2, 8: 3, 9: 4}
            for number, message in enumerate(order):
                self.is_in(processor, "waiting")
                self.receives(processor, message)
                cells.update(zip(message[2], message[3]))
                self.assertEqual(processor.work[1].cells, [cells[k] for k in (3, 7, 8, 9)] + [0, 0])
            self.is_in(processor, "ready", 1, [])
            self.sends(processor)

    def test_one_thread(self):
        processor = self.started([("fork", [(4, [])]), ("end",)])
        ticks(processor, 3)
        self.is_in(processor, "waiting")
        self.receives(processor, ("ended", 1, [], []))
        self.is_in(processor, "ready", 1)

    def test_it_forks_again(self):
        processor = self.started([("fork", [(4, [3]), (5, [])]), ("jump", 0)], [3], [1])
        for word in (1, 5, 6):
            while processor.work[1].state == "ready":
                processor.tick()
            self.sends(processor, (0, ("start", 4, [word])), (2, ("start", 5, [])))
            self.receives(processor, ("ended", 1, [], []))
            self.is_in(processor, "waiting")
            self.receives(processor, ("ended", 1, [3], [5 if word == 1 else 6]))
            self.is_in(processor, "ready")

    def test_two_parents_on_one_processor(self):
        fork = [("fork", [(4, []), (5, [])]), ("end",)]
        processor = running({1: thread(fork), 2: thread(fork)})
        self.receives(processor, ("start", 1, []), ("start", 2, []))
        ticks(processor, 2)
        self.receives(processor, ("ended", 1, [], []), ("ended", 2, [], []))
        self.assertEqual(processor.row, [])
        self.receives(processor, ("ended", 2, [], []))
        self.assertEqual(processor.row, [2])
        self.receives(processor, ("ended", 1, [], []))
        self.assertEqual(processor.row, [2, 1])


class EndTest(ExchangeTest):
    def test_the_parent_gets_the_gives(self):
        for parent, place in ((0, 1), (2, 1), (4, 0), (5, 2), (6, 3)):
            processor = self.started([("end",)], [3, 7, 8], [10, 0, 65535], 5, gives=[3, 8], parent=parent)
            processor.tick()
            self.sends(processor, (place, ("ended", parent, [3, 8], [10, 65535])))
            self.is_in(processor, "done")
            ticks(processor, 2)
            self.sends(processor)

    def test_what_is_sent_may_change_later(self):
        processor = self.started([("end",)], [3, 7], [10, 20], gives=[3])
        for _ in range(2):
            processor.tick()
            found = processor.sent()
            self.assertEqual(found, [(1, ("ended", 0, [3], [10]))])
            found[0][1][2].clear()
            found[0][1][3].clear()
            self.assertEqual((processor.work[1].gives, processor.work[1].cells), ([3], [10, 20]))
            self.receives(processor, ("start", 1, [10, 20]))

    def test_no_gives(self):
        processor = self.started([("end",)], [3], [10], parent=5)
        processor.tick()
        self.sends(processor, (2, ("ended", 5, [], [])))

    def test_the_words_are_those_of_the_end(self):
        processor = self.started([("push", 6), ("store", 1), ("end",)], [3, 7], [1, 2], gives=[7])
        ticks(processor, 3)
        self.sends(processor, (1, ("ended", 0, [7], [6])))

    def test_thread_0(self):
        processor = running({0: thread([("end",)], [3, 4], [3], parent=None)})
        processor.tick()
        self.sends(processor)
        self.is_in(processor, "done", t=0)

    def test_threads_that_do_not_end_tell_nothing(self):
        for last, state in ((("stop",), "stopped"), (("check", 0), "faulted"), (("either", []), "stopped")):
            processor = self.started([("push", 0), last, ("end",)], [3], [1], gives=[3])
            ticks(processor, 4)
            self.sends(processor)
            self.is_in(processor, state)


class StartTest(ExchangeTest):
    def test_a_new_workspace(self):
        code = [("push", 5), ("store", 1), ("end",)]
        processor = running({1: thread(code, [3, 8], [8], 4, parent=6)})
        self.receives(processor, ("start", 1, [7, 9]))
        work = processor.work[1]
        found = (work.number, work.parent, work.takes, work.gives, work.code, work.cells, work.stack, work.at, work.state)
        self.assertEqual(frozen(found), frozen((1, 6, [3, 8], [8], code, [7, 9, 0, 0], [], 0, "ready")))
        self.is_in(processor, "ready")
        self.sends(processor)

    def test_a_thread_is_started_again(self):
        processor = self.started([("push", 5), ("store", 1), ("push", 4), ("end",)], [3], [7], 2)
        ticks(processor, 4)
        self.is_in(processor, "done")
        self.assertEqual(processor.work[1].cells, [7, 5])
        self.receives(processor, ("start", 1, [8]))
        self.is_in(processor, "ready", 0, [])
        self.assertEqual(processor.work[1].cells, [8, 0])


class HomeMessageTest(ExchangeTest):
    def test_the_answers_of_homes_are_sent(self):
        log = []
        homes = {0: Home("in", [4]), 1: Home("out", []), 2: Home("inner", []), 5: Home("inner", [])}
        processor = running({}, homes=homes, log=log)
        self.receives(processor, ("offer", 2, 7, 6), ("ask", 2, 5), ("ask", 5, 4), ("accept", 2, 5), ("cancel", 5, 4))
        self.sends(
            processor,
            (2, ("offered", 2, 5)), (2, ("word", 2, 7, 5)), (3, ("taken", 6)), (0, ("cancelled", 5, 4)),
        )
        self.receives(processor, ("offer", 1, 8, 4), ("ask", 0, 6), ("accept", 0, 6))
        self.sends(processor, (0, ("taken", 4)), (3, ("offered", 0, 6)), (3, ("word", 0, 4, 6)))
        self.assertEqual((log, homes[1].outputs), ([(2, 7), (1, 8), (0, 4)], [8]))

    def test_answers_to_threads_here_are_sent_too(self):
        processor = self.started([("take", 2), ("end",)])
        processor.tick()
        self.sends(processor, (1, ("ask", 2, 1)))
        self.receives(processor, ("ask", 2, 1), ("offer", 2, 7, 5))
        self.sends(processor, (1, ("offered", 2, 1)))
        self.is_in(processor, "waiting")

    def test_the_order_of_the_outgoing_messages(self):
        processor = self.started([("push", 7), ("give", 4), ("end",)])
        self.receives(processor, ("offer", 2, 1, 5))
        ticks(processor, 2)
        self.receives(processor, ("ask", 2, 6))
        self.sends(processor, (2, ("offer", 4, 7, 1)), (3, ("offered", 2, 6)))


if __name__ == "__main__":
    unittest.main()
