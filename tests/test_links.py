"""Point 19.1: links."""

import random
import unittest

from placedanyhow.links import Links


def arrivals(links, ticks):
    """What arrives in each tick, as a dict without the ticks in which nothing does."""
    found = {}
    for tick in ticks:
        row = links.due(tick)
        assert type(row) is list and all(type(pair) is tuple for pair in row)
        if row:
            found[tick] = row
    return found


class DelayTest(unittest.TestCase):
    def test_the_example(self):
        links = Links([3, 1])
        links.send(0, 1, 0, "a")
        links.send(0, 1, 0, "b")
        self.assertEqual([links.due(1), links.due(2), links.due(3), links.empty()], [[], [], [(0, "a"), (0, "b")], True])

    def test_no_delays(self):
        links = Links([])
        links.send(4, 0, 1, "a")
        links.send(4, 1, 2, "b")
        self.assertEqual(arrivals(links, range(5, 9)), {5: [(1, "a"), (2, "b")]})
        links.send(8, 0, 1, "c")
        self.assertEqual(arrivals(links, range(9, 12)), {9: [(1, "c")]})

    def test_one_delay(self):
        for delay in (1, 2, 7, 65535):
            links = Links([delay])
            for k in range(3):
                links.send(10 * k, 0, 1, k)
            ticks = sorted({10 * k + delay + d for k in range(3) for d in (-1, 0, 1)} - {0})
            self.assertEqual(arrivals(links, ticks), {10 * k + delay: [(1, k)] for k in range(3)})

    def test_several_delays(self):
        links = Links([4, 1, 9])
        for k in range(7):
            links.send(100 * k, 0, 1, k)
        found = arrivals(links, range(1, 700))
        self.assertEqual(found, {
            4: [(1, 0)], 101: [(1, 1)], 209: [(1, 2)], 304: [(1, 3)], 401: [(1, 4)], 509: [(1, 5)], 604: [(1, 6)],
        })

    def test_messages_are_counted_over_all_links(self):
        links = Links([5, 2, 7])
        for k, (source, goal) in enumerate([(0, 1), (1, 0), (1, 2), (2, 0), (0, 1), (2, 1)]):
            links.send(20, source, goal, k)
        # The message 4 of the direction (0, 1) would be due in tick 22.
        self.assertEqual(arrivals(links, range(21, 40)), {22: [(0, 1)], 25: [(1, 0), (1, 4), (0, 3)], 27: [(2, 2), (1, 5)]})

    def test_messages_are_counted_behind_those_that_have_arrived(self):
        links = Links([1, 3])
        links.send(0, 0, 1, "a")
        self.assertEqual(links.due(1), [(1, "a")])
        links.send(1, 0, 1, "b")
        self.assertEqual([links.due(2), links.due(3), links.due(4)], [[], [], [(1, "b")]])
        links.send(4, 0, 1, "c")
        self.assertEqual(links.due(5), [(1, "c")])

    def test_the_delays_may_change_later(self):
        delays = [2, 3]
        links = Links(delays)
        delays[0] = 9
        links.send(0, 0, 1, "a")
        delays.clear()
        links.send(0, 1, 0, "b")
        delays.append(50)
        links.send(10, 0, 1, "c")
        self.assertEqual(arrivals(links, range(1, 70)), {2: [(1, "a")], 3: [(0, "b")], 12: [(1, "c")]})
        self.assertEqual(delays, [50])

    def test_the_delays_stay(self):
        delays = [2, 3]
        links = Links(delays)
        for k in range(5):
            links.send(k, 0, 1, k)
        links.due(9)
        self.assertEqual(delays, [2, 3])


class OrderTest(unittest.TestCase):
    def test_a_later_message_waits(self):
        links = Links([6, 1, 2])
        links.send(0, 0, 1, "a")
        links.send(0, 0, 1, "b")
        links.send(3, 0, 1, "c")
        self.assertEqual(arrivals(links, range(1, 9)), {6: [(1, "a"), (1, "b"), (1, "c")]})

    def test_a_later_message_that_is_due_later(self):
        links = Links([3, 1, 4])
        links.send(0, 0, 1, "a")
        links.send(1, 0, 1, "b")
        links.send(2, 0, 1, "c")
        self.assertEqual(arrivals(links, range(3, 9)), {3: [(1, "a"), (1, "b")], 6: [(1, "c")]})

    def test_both_directions_of_a_link(self):
        links = Links([9, 1])
        links.send(0, 0, 1, "a")
        links.send(0, 1, 0, "b")
        links.send(0, 0, 1, "c")
        links.send(1, 1, 0, "d")
        self.assertEqual(arrivals(links, range(1, 12)), {1: [(0, "b")], 2: [(0, "d")], 9: [(1, "a"), (1, "c")]})

    def test_links_do_not_hold_each_other_up(self):
        links = Links([9, 1, 2])
        links.send(0, 0, 1, "a")
        links.send(0, 0, 2, "b")
        links.send(0, 2, 1, "c")
        self.assertEqual(arrivals(links, range(1, 12)), {1: [(2, "b")], 2: [(1, "c")], 9: [(1, "a")]})

    def test_the_order_of_the_directions(self):
        directions = [(a, b) for a in range(4) for b in range(4) if a != b]
        rng = random.Random(103)
        for _ in range(20):
            links = Links([])
            drawn = rng.sample(directions, len(directions))
            for source, goal in drawn:
                links.send(0, source, goal, (source, goal))
            self.assertEqual(links.due(1), [(goal, (source, goal)) for source, goal in directions])

    def test_several_messages_of_a_direction(self):
        links = Links([])
        sent = [(1, 0, "a"), (0, 1, "b"), (1, 0, "c"), (0, 2, "d"), (0, 1, "e"), (0, 1, "a")]
        for source, goal, message in sent:
            links.send(7, source, goal, message)
        self.assertEqual(links.due(8), [(1, "b"), (1, "e"), (1, "a"), (2, "d"), (0, "a"), (0, "c")])
        self.assertEqual(links.due(9), [])

    def test_messages_that_wait_come_first(self):
        links = Links([5, 1])
        links.send(0, 1, 2, "a")
        links.send(0, 0, 1, "b")
        self.assertEqual(links.due(1), [(1, "b")])
        links.send(1, 0, 2, "c")
        links.send(4, 1, 2, "d")
        self.assertEqual(arrivals(links, range(2, 8)), {5: [(2, "a"), (2, "d")], 6: [(2, "c")]})

    def test_ticks_that_are_left_out(self):
        links = Links([2, 5])
        links.send(0, 0, 1, "a")
        links.send(0, 1, 0, "b")
        links.send(1, 0, 1, "c")
        links.send(1, 0, 1, "d")
        self.assertEqual(links.due(5), [(1, "a"), (1, "c"), (0, "b")])
        self.assertEqual(links.due(100), [(1, "d")])
        self.assertEqual(links.due(101), [])

    def test_ticks_in_which_nothing_is_due(self):
        links = Links([3])
        self.assertEqual([links.due(1), links.due(2)], [[], []])
        links.send(2, 0, 1, "a")
        self.assertEqual([links.due(3), links.due(4), links.due(5), links.due(6)], [[], [], [(1, "a")], []])

    def test_drawn_messages(self):
        rng = random.Random(104)
        for _ in range(100):
            delays = [rng.randrange(1, 9) for _ in range(rng.randrange(4))]
            links, found, expected, last, many = Links(delays), [], [], {}, 0
            for tick in range(40):
                if tick:
                    found += [(tick, goal, message) for goal, message in links.due(tick)]
                for _ in range(rng.randrange(3) if tick < 25 else 0):
                    source, goal = rng.sample(range(3), 2)
                    delay = delays[many % len(delays)] if delays else 1
                    last[source, goal] = max(last.get((source, goal), 0), tick + delay)
                    expected.append((last[source, goal], source, goal, many))
                    links.send(tick, source, goal, many)
                    many += 1
            self.assertEqual(found, [(tick, goal, k) for tick, _, goal, k in sorted(expected)])
            self.assertTrue(links.empty())


class EmptyTest(unittest.TestCase):
    def test_before_while_and_after(self):
        links = Links([2, 4])
        self.assertIs(links.empty(), True)
        self.assertEqual(links.due(1), [])
        self.assertIs(links.empty(), True)
        links.send(1, 0, 1, "a")
        self.assertIs(links.empty(), False)
        links.send(1, 1, 0, "b")
        self.assertEqual(links.due(2), [])
        self.assertIs(links.empty(), False)
        self.assertEqual(links.due(3), [(1, "a")])
        self.assertIs(links.empty(), False)
        self.assertEqual(links.due(4), [])
        self.assertIs(links.empty(), False)
        self.assertEqual(links.due(5), [(0, "b")])
        self.assertIs(links.empty(), True)
        links.send(5, 1, 0, "c")
        self.assertIs(links.empty(), False)

    def test_links_are_apart(self):
        one, other = Links([]), Links([])
        one.send(0, 0, 1, "a")
        self.assertIs(other.empty(), True)
        self.assertEqual(other.due(1), [])
        self.assertEqual(one.due(1), [(1, "a")])


class MessageTest(unittest.TestCase):
    def test_messages_of_any_kind(self):
        class Thing:
            pass

        messages = [None, 0, 1, False, True, "", "a", b"x", (), [], {}, (1, [2, {"a": (3,)}]), [None, (0,)], Thing(), Thing]
        links = Links([])
        for message in messages:
            links.send(0, 0, 1, message)
        found = links.due(1)
        self.assertEqual(found, [(1, message) for message in messages])
        self.assertEqual([type(message) for _, message in found], [type(message) for message in messages])
        self.assertIs(links.empty(), True)

    def test_falsy_messages_are_on_the_way(self):
        for message in (None, 0, False, "", (), []):
            links = Links([])
            links.send(0, 0, 1, message)
            self.assertIs(links.empty(), False)

    def test_the_message_may_change_later(self):
        message = ("load", 0, [1, 2], {"a": [3]})
        links = Links([])
        links.send(0, 0, 1, message)
        message[2].clear()
        message[3]["a"].append(4)
        self.assertEqual(links.due(1), [(1, ("load", 0, [1, 2], {"a": [3]}))])

    def test_what_is_returned_may_change_later(self):
        links = Links([1, 2])
        links.send(0, 0, 1, "a")
        links.send(0, 0, 1, "b")
        found = links.due(1)
        found.append((1, "c"))
        self.assertEqual(links.due(2), [(1, "b")])


if __name__ == "__main__":
    unittest.main()
