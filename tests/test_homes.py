"""Points 22.1 and 22.2: where givers and takers meet."""

import random
import unittest

from placedanyhow.homes import Home, Homes
from tests.support import frozen


class HomeTest(unittest.TestCase):
    """Tests with the homes of the channels 0 ("in"), 1 ("out") and 2 and 3 ("inner")."""

    def setUp(self):
        self.log = []
        self.rows = {
            0: Home("in", [7, 0, 65535]), 1: Home("out", []), 2: Home("inner", []), 3: Home("inner", []),
        }
        self.homes = Homes(self.rows, self.log)

    def handles(self, message, *answers):
        """Tests the answers to a message, and that none of its parts is modified."""
        before = frozen(message)
        found = self.homes.handle(message)
        self.assertEqual(frozen(found), frozen(list(answers)), message)
        self.assertEqual(frozen(message), before)

    def logged(self, *events):
        self.assertEqual(frozen(self.log), frozen(list(events)))

    def outputs(self):
        return [self.rows[c].outputs for c in sorted(self.rows)]


class FieldTest(HomeTest):
    def test_a_home(self):
        for kind, inputs in (("in", []), ("in", [1, 2]), ("out", []), ("inner", [])):
            home = Home(kind, inputs)
            self.assertEqual(frozen((home.kind, home.outputs)), frozen((kind, [])))
            self.assertLessEqual({"kind", "outputs"}, set(vars(home)))

    def test_the_example(self):
        log = []
        homes = Homes({4: Home("inner", []), 0: Home("in", [9])}, log)
        found = [homes.handle(("ask", 4, 2)), homes.handle(("offer", 4, 7, 1)), homes.handle(("accept", 4, 2))]
        self.assertEqual(found, [[], [(2, ("offered", 4, 2))], [(2, ("word", 4, 7, 2)), (1, ("taken", 1))]])
        found = [homes.handle(("ask", 0, 2)), homes.handle(("cancel", 0, 2)), log]
        self.assertEqual(found, [[(2, ("offered", 0, 2))], [(2, ("cancelled", 0, 2))], [(4, 7)]])

    def test_outputs_of_homes_are_apart(self):
        one, other = Home("out", []), Home("out", [])
        Homes({0: one, 1: other}, []).handle(("offer", 0, 5, 2))
        self.assertEqual((one.outputs, other.outputs), ([5], []))


class InnerTest(HomeTest):
    def test_offer_before_ask(self):
        self.handles(("offer", 2, 9, 4))
        self.logged()
        self.handles(("ask", 2, 5), (5, ("offered", 2, 5)))
        self.logged()
        self.handles(("accept", 2, 5), (5, ("word", 2, 9, 5)), (4, ("taken", 4)))
        self.logged((2, 9))

    def test_ask_before_offer(self):
        self.handles(("ask", 2, 5))
        self.handles(("offer", 2, 9, 4), (5, ("offered", 2, 5)))
        self.handles(("accept", 2, 5), (5, ("word", 2, 9, 5)), (4, ("taken", 4)))
        self.logged((2, 9))

    def test_words_and_threads_that_are_0(self):
        self.handles(("ask", 2, 0))
        self.handles(("offer", 2, 0, 1), (0, ("offered", 2, 0)))
        self.handles(("accept", 2, 0), (0, ("word", 2, 0, 0)), (1, ("taken", 1)))
        self.handles(("offer", 2, 0, 0))
        self.handles(("ask", 2, 1), (1, ("offered", 2, 1)))
        self.handles(("accept", 2, 1), (1, ("word", 2, 0, 1)), (0, ("taken", 0)))
        self.logged((2, 0), (2, 0))

    def test_nothing_is_left_behind_an_accept(self):
        self.handles(("offer", 2, 9, 4))
        self.handles(("ask", 2, 5), (5, ("offered", 2, 5)))
        self.handles(("accept", 2, 5), (5, ("word", 2, 9, 5)), (4, ("taken", 4)))
        # No thread asks any more.
        self.handles(("offer", 2, 8, 4))
        # This word is offered, and not the one before.
        self.handles(("ask", 2, 6), (6, ("offered", 2, 6)))
        self.handles(("accept", 2, 6), (6, ("word", 2, 8, 6)), (4, ("taken", 4)))
        # No word is offered any more.
        self.handles(("ask", 2, 5))
        self.logged((2, 9), (2, 8))

    def test_cancel_with_an_offer(self):
        self.handles(("offer", 2, 9, 4))
        self.handles(("ask", 2, 5), (5, ("offered", 2, 5)))
        self.handles(("cancel", 2, 5), (5, ("cancelled", 2, 5)))
        self.logged()
        # The offer stays.
        self.handles(("ask", 2, 6), (6, ("offered", 2, 6)))
        self.handles(("accept", 2, 6), (6, ("word", 2, 9, 6)), (4, ("taken", 4)))
        self.logged((2, 9))

    def test_cancel_without_an_offer(self):
        self.handles(("ask", 2, 5))
        self.handles(("cancel", 2, 5), (5, ("cancelled", 2, 5)))
        self.handles(("offer", 2, 9, 4))
        self.handles(("ask", 2, 5), (5, ("offered", 2, 5)))
        self.handles(("cancel", 2, 5), (5, ("cancelled", 2, 5)))
        self.handles(("ask", 2, 5), (5, ("offered", 2, 5)))
        self.logged()

    def test_an_accept_without_an_offer(self):
        self.handles(("ask", 2, 5))
        self.handles(("accept", 2, 5))
        self.logged()
        self.handles(("offer", 2, 9, 4), (5, ("offered", 2, 5)))

    def test_other_threads(self):
        for giver, asker in ((1, 2), (2, 1), (7, 3)):
            self.handles(("ask", 3, asker))
            self.handles(("offer", 3, giver, giver), (asker, ("offered", 3, asker)))
            self.handles(("accept", 3, asker), (asker, ("word", 3, giver, asker)), (giver, ("taken", giver)))
        self.logged((3, 1), (3, 2), (3, 7))

    def test_channels_are_apart(self):
        self.handles(("offer", 2, 9, 4))
        self.handles(("ask", 3, 5))
        self.handles(("ask", 2, 6), (6, ("offered", 2, 6)))
        self.handles(("offer", 3, 8, 7), (5, ("offered", 3, 5)))
        self.handles(("cancel", 2, 6), (6, ("cancelled", 2, 6)))
        self.handles(("accept", 3, 5), (5, ("word", 3, 8, 5)), (7, ("taken", 7)))
        self.handles(("ask", 2, 5), (5, ("offered", 2, 5)))
        self.logged((3, 8))
        self.assertEqual(self.outputs(), [[], [], [], []])


class InTest(HomeTest):
    def accepts(self, word, asker=5):
        self.handles(("ask", 0, asker), (asker, ("offered", 0, asker)))
        self.handles(("accept", 0, asker), (asker, ("word", 0, word, asker)))

    def test_the_words_come_in_their_order(self):
        self.accepts(7)
        self.logged((0, 7))
        self.accepts(0, 6)
        self.accepts(65535, 0)
        self.logged((0, 7), (0, 0), (0, 65535))
        self.assertEqual(self.outputs(), [[], [], [], []])

    def test_none_is_left(self):
        for word in (7, 0, 65535):
            self.accepts(word)
        self.handles(("ask", 0, 5))
        self.handles(("cancel", 0, 5), (5, ("cancelled", 0, 5)))
        self.handles(("ask", 0, 6))
        self.logged((0, 7), (0, 0), (0, 65535))

    def test_no_words_at_all(self):
        self.rows[0] = Home("in", [])
        self.handles(("ask", 0, 5))
        self.handles(("cancel", 0, 5), (5, ("cancelled", 0, 5)))
        self.logged()

    def test_cancel(self):
        self.accepts(7)
        self.handles(("ask", 0, 5), (5, ("offered", 0, 5)))
        self.handles(("cancel", 0, 5), (5, ("cancelled", 0, 5)))
        self.logged((0, 7))
        # The word stays.
        self.accepts(0, 6)
        self.logged((0, 7), (0, 0))

    def test_the_word_0(self):
        self.rows[0] = Home("in", [0])
        self.accepts(0, 0)
        self.handles(("ask", 0, 0))
        self.logged((0, 0))

    def test_nothing_is_offered_before_an_ask(self):
        # An accept answers to one message only: the next word waits for the next ask.
        self.handles(("ask", 0, 5), (5, ("offered", 0, 5)))
        self.handles(("accept", 0, 5), (5, ("word", 0, 7, 5)))


class OutTest(HomeTest):
    def test_offers(self):
        for word, giver in ((4, 2), (0, 0), (65535, 2), (4, 3)):
            self.handles(("offer", 1, word, giver), (giver, ("taken", giver)))
        self.assertEqual(self.outputs(), [[], [4, 0, 65535, 4], [], []])
        self.logged((1, 4), (1, 0), (1, 65535), (1, 4))


class LogTest(HomeTest):
    def test_the_order_of_the_events(self):
        self.handles(("offer", 2, 9, 4))
        self.handles(("ask", 2, 5), (5, ("offered", 2, 5)))
        self.handles(("offer", 1, 6, 8), (8, ("taken", 8)))
        self.handles(("ask", 0, 3), (3, ("offered", 0, 3)))
        self.logged((1, 6))
        self.handles(("accept", 0, 3), (3, ("word", 0, 7, 3)))
        self.handles(("accept", 2, 5), (5, ("word", 2, 9, 5)), (4, ("taken", 4)))
        self.handles(("offer", 1, 5, 8), (8, ("taken", 8)))
        self.logged((1, 6), (0, 7), (2, 9), (1, 5))

    def test_no_event_for_anything_else(self):
        self.handles(("ask", 0, 3), (3, ("offered", 0, 3)))
        self.handles(("cancel", 0, 3), (3, ("cancelled", 0, 3)))
        self.handles(("ask", 2, 5))
        self.handles(("offer", 2, 9, 4), (5, ("offered", 2, 5)))
        self.handles(("cancel", 2, 5), (5, ("cancelled", 2, 5)))
        self.logged()


class ListTest(HomeTest):
    def test_the_log_is_kept(self):
        self.log.append((9, 9))
        self.handles(("offer", 1, 6, 8), (8, ("taken", 8)))
        self.assertEqual(self.log, [(9, 9), (1, 6)])
        self.log.clear()
        self.handles(("offer", 1, 5, 8), (8, ("taken", 8)))
        self.assertEqual(self.log, [(1, 5)])

    def test_a_log_of_several(self):
        other = Homes({1: Home("out", [])}, self.log)
        self.handles(("offer", 1, 6, 8), (8, ("taken", 8)))
        other.handle(("offer", 1, 4, 8))
        self.handles(("offer", 1, 5, 8), (8, ("taken", 8)))
        self.assertEqual(self.log, [(1, 6), (1, 4), (1, 5)])

    def test_the_dict_is_kept(self):
        self.rows[6] = Home("out", [])
        self.handles(("offer", 6, 1, 2), (2, ("taken", 2)))
        self.assertEqual(self.rows[6].outputs, [1])
        self.rows[0] = Home("in", [44])
        self.handles(("ask", 0, 5), (5, ("offered", 0, 5)))
        self.handles(("accept", 0, 5), (5, ("word", 0, 44, 5)))

    def test_the_inputs_are_not_kept(self):
        inputs = [7, 8]
        self.rows[0] = Home("in", inputs)
        inputs[0] = 1
        inputs.clear()
        self.handles(("ask", 0, 5), (5, ("offered", 0, 5)))
        self.handles(("accept", 0, 5), (5, ("word", 0, 7, 5)))
        inputs.append(3)
        self.handles(("ask", 0, 5), (5, ("offered", 0, 5)))
        self.handles(("accept", 0, 5), (5, ("word", 0, 8, 5)))
        self.handles(("ask", 0, 5))
        self.assertEqual(inputs, [3])

    def test_the_inputs_are_not_modified(self):
        inputs = [7, 8]
        self.rows[0] = Home("in", inputs)
        self.handles(("ask", 0, 5), (5, ("offered", 0, 5)))
        self.handles(("accept", 0, 5), (5, ("word", 0, 7, 5)))
        self.assertEqual(inputs, [7, 8])

    def test_the_answers_may_change_later(self):
        self.homes.handle(("ask", 2, 5)).append(1)
        self.homes.handle(("offer", 2, 9, 4)).clear()
        self.handles(("accept", 2, 5), (5, ("word", 2, 9, 5)), (4, ("taken", 4)))


class DrawnTest(HomeTest):
    """Drawn orders of messages, against a plain account of offers and asks."""

    def test_an_inner_channel(self):
        rng = random.Random(111)
        for _ in range(60):
            self.setUp()
            offer, asker, told, events = None, None, False, []
            for _ in range(40):
                ways = (["offer"] if offer is None else []) + (["ask"] if asker is None else [])
                ways += ["cancel"] if asker is not None else []
                ways += ["accept"] if told else []
                way = rng.choice(ways)
                t, word = rng.randrange(12), rng.randrange(4)
                if way == "offer":
                    offer = (word, t)
                    told = asker is not None
                    self.handles(("offer", 2, word, t), *([(asker, ("offered", 2, asker))] if told else []))
                elif way == "ask":
                    asker = t
                    told = offer is not None
                    self.handles(("ask", 2, t), *([(t, ("offered", 2, t))] if told else []))
                elif way == "cancel":
                    self.handles(("cancel", 2, asker), (asker, ("cancelled", 2, asker)))
                    asker, told = None, False
                else:
                    self.handles(("accept", 2, asker), (asker, ("word", 2, offer[0], asker)), (offer[1], ("taken", offer[1])))
                    events.append((2, offer[0]))
                    offer, asker, told = None, None, False
                self.logged(*events)


if __name__ == "__main__":
    unittest.main()
