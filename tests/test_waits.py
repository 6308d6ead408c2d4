"""Points 12.1 to 12.4: the reasons and the chains of the threads that wait in a last state."""

import random
import unittest

from placedanyhow.meaning import run
from placedanyhow.states import ends
from placedanyhow.usage import threads_of, touched
from placedanyhow.waits import chain, explains, waits
from placedanyhow.work import prepare
from tests.cores import draw_core
from tests.parts import FAULT, NOTHING, SKIP, STOP, alt, cell, give, num, par, put, repeat, seq, take, when
from tests.support import frozen, is_plain

WAITING = "waiting"


def last_of(core, inputs=()):
    return run(core, list(inputs), [])[0]


class WaitsTest(unittest.TestCase):
    def check(self, channels, body, *expected, inputs=()):
        """Tests the waits of the last state of a core."""
        core = ("core", 9, channels, body)
        state = last_of(core, inputs)
        before = frozen((core, state))
        found = waits(core, state)
        self.assertEqual(frozen(found), frozen(list(expected)))
        self.assertTrue(is_plain(found))
        self.assertEqual(frozen((core, state)), before)
        self.assertEqual([t for t, _ in found], [t for t, end in enumerate(ends(state)) if end == WAITING])

    def test_nobody_waits(self):
        self.check([], SKIP)
        self.check(["inner"], par((1, give(0, num(1))), (2, take(0, cell(0)))))
        self.check(["inner"], STOP)
        self.check(["inner"], put(cell(0), FAULT))
        self.check(["in"], take(0, cell(0)), inputs=[[5]])

    def test_the_example(self):
        text = (
            "program p main { channel c; channel d; word x; word y; together { "
            "{ take c into x; give 1 to d; } { take d into y; give 2 to c; } } }"
        )
        core = prepare(text)
        state = run(core, [], [])[0]
        self.assertEqual(waits(core, state), [
            (0, [(None, 1, WAITING), (None, 2, WAITING)]), (1, [(0, 2, WAITING)]), (2, [(1, 1, WAITING)]),
        ])
        self.assertEqual(chain(core, state, 0), ([0, 1, 2], ("ring", 1)))
        self.assertEqual(
            [explains(core, state, [1, 2], ("ring", 0)), explains(core, state, [1], ("dead", 0, 2, "done"))],
            [True, False],
        )

    def test_a_partner_that_is_done(self):
        self.check(["inner"], par((1, give(0, num(1))), (2, when(num(0), take(0, cell(0))))),
                   (0, [(None, 1, WAITING)]), (1, [(0, 2, "done")]))
        self.check(["inner"], par((1, repeat(0, num(1), give(0, num(1)))), (2, take(0, cell(0)))),
                   (0, [(None, 2, WAITING)]), (2, [(0, 1, "done")]))

    def test_a_partner_that_is_stopped(self):
        self.check(["inner"], par((1, give(0, num(1))), (2, seq(STOP, take(0, cell(0))))),
                   (0, [(None, 1, WAITING), (None, 2, "stopped")]), (1, [(0, 2, "stopped")]))
        self.check(["inner"], par((1, seq(alt(), give(0, num(1)))), (2, take(0, cell(0)))),
                   (0, [(None, 1, "stopped"), (None, 2, WAITING)]), (2, [(0, 1, "stopped")]))

    def test_a_partner_that_is_faulted(self):
        self.check(["inner"], par((1, give(0, num(1))), (2, seq(put(cell(1), FAULT), take(0, cell(0))))),
                   (0, [(None, 1, WAITING), (None, 2, "faulted")]), (1, [(0, 2, "faulted")]))
        self.check(["inner"], par((1, give(0, FAULT)), (2, take(0, cell(0)))),
                   (0, [(None, 1, "faulted"), (None, 2, WAITING)]), (2, [(0, 1, "faulted")]))

    def test_a_partner_that_waits(self):
        self.check(["inner", "inner"], par((1, seq(give(0, num(1)), give(1, num(1)))),
                                           (2, seq(take(1, cell(0)), take(0, cell(0))))),
                   (0, [(None, 1, WAITING), (None, 2, WAITING)]), (1, [(0, 2, WAITING)]), (2, [(1, 1, WAITING)]))

    def test_nobody(self):
        self.check(["inner"], give(0, num(1)), (0, [(0, None, "nobody")]))
        self.check(["inner"], take(0, cell(0)), (0, [(0, None, "nobody")]))
        self.check(["inner"], par((1, take(0, cell(0)))), (0, [(None, 1, WAITING)]), (1, [(0, None, "nobody")]))
        self.check(["inner"], par((1, give(0, num(1))), (2, SKIP)),
                   (0, [(None, 1, WAITING)]), (1, [(0, None, "nobody")]))

    def test_one_that_has_both_ends_itself(self):
        both = seq(give(0, num(1)), take(0, cell(0)))
        self.check(["inner"], both, (0, [(0, None, "nobody")]))
        self.check(["inner"], par((1, both), (2, SKIP)), (0, [(None, 1, WAITING)]), (1, [(0, None, "nobody")]))
        inside = seq(give(0, num(1)), par((2, take(0, cell(0)))))
        self.check(["inner"], par((1, inside)), (0, [(None, 1, WAITING)]), (1, [(0, None, "nobody")]))

    def test_a_sibling_with_the_same_end_is_no_partner(self):
        # Both of them give on the channel, one after the other: the branches of two "par".
        self.check(["inner"], seq(par((1, SKIP), (2, when(num(0), take(0, cell(0))))), par((3, give(0, num(1))))),
                   (0, [(None, 3, WAITING)]), (3, [(0, None, "nobody")]))

    def test_only_threads_that_are_joined_now(self):
        # Thread 4 takes from the channel, but in another "par" than thread 1.
        self.check(["inner"], seq(par((1, give(0, num(1))), (2, SKIP)), par((3, SKIP), (4, take(0, cell(0))))),
                   (0, [(None, 1, WAITING)]), (1, [(0, None, "nobody")]))
        self.check(["inner"], when(num(1), par((1, give(0, num(1)))), par((2, take(0, cell(0))))),
                   (0, [(None, 1, WAITING)]), (1, [(0, None, "nobody")]))

    def test_an_uncle(self):
        nested = par((2, give(0, num(1))), (3, SKIP))
        self.check(["inner"], par((1, nested), (4, seq(STOP, take(0, cell(0))))),
                   (0, [(None, 1, WAITING), (None, 4, "stopped")]), (1, [(None, 2, WAITING)]), (2, [(0, 4, "stopped")]))
        nested = par((3, SKIP), (4, par((5, take(0, cell(0))))))
        self.check(["inner"], par((1, SKIP), (2, nested), (6, put(cell(1), FAULT)), (7, when(num(0), give(0, num(1))))),
                   (0, [(None, 2, WAITING), (None, 6, "faulted")]), (2, [(None, 4, WAITING)]),
                   (4, [(None, 5, WAITING)]), (5, [(0, 7, "done")]))

    def test_the_nearest_relation_decides(self):
        # Thread 3 takes from the channel, and so does thread 1 around it: its sibling is the partner.
        nested = par((2, give(0, num(1))), (3, when(num(0), take(0, cell(0)))))
        self.check(["inner"], par((1, nested), (4, SKIP)),
                   (0, [(None, 1, WAITING)]), (1, [(None, 2, WAITING)]), (2, [(0, 3, "done")]))

    def test_a_partner_whose_branch_has_the_end(self):
        # Thread 2 has the end inside of its branch 4; the reason names thread 2.
        nested = par((3, SKIP), (4, seq(STOP, take(0, cell(0)))))
        self.check(["inner"], par((1, give(0, num(1))), (2, nested)),
                   (0, [(None, 1, WAITING), (None, 2, WAITING)]), (1, [(0, 2, WAITING)]), (2, [(None, 4, "stopped")]))
        self.check(["inner"], par((1, give(0, num(1))), (2, seq(STOP, nested))),
                   (0, [(None, 1, WAITING), (None, 2, "stopped")]), (1, [(0, 2, "stopped")]))

    def test_a_partner_that_takes_by_an_either(self):
        row = (num(0), 0, cell(0), SKIP)
        other = (None, 1, cell(1), SKIP)
        self.check(["inner", "inner"], par((1, give(0, num(1))), (2, alt(row, other))),
                   (0, [(None, 1, WAITING), (None, 2, WAITING)]), (1, [(0, 2, WAITING)]), (2, [(1, None, "nobody")]))

    def test_inputs(self):
        self.check(["in"], take(0, cell(0)), (0, [(0, None, "input")]), inputs=[[]])
        self.check(["out", "in"], seq(take(1, cell(0)), take(1, cell(0))), (0, [(1, None, "input")]), inputs=[[7]])
        self.check(["in", "in"], par((1, take(1, cell(0))), (2, take(0, cell(1)))),
                   (0, [(None, 1, WAITING)]), (1, [(1, None, "input")]), inputs=[[4], []])

    def test_rows_in_their_order(self):
        rows = [(None, 2, cell(0), SKIP), (num(1), 0, cell(0), SKIP), (None, 3, cell(0), SKIP), (num(0), 4, cell(0), SKIP),
                (None, 1, cell(0), SKIP)]
        channels = ["in", "inner", "inner", "inner", "inner"]
        branches = [(2, seq(STOP, give(1, num(1)), give(4, num(1)))), (3, when(num(0), give(2, num(1))))]
        reasons = [(2, 3, "done"), (0, None, "input"), (3, None, "nobody"), (1, 2, "stopped")]
        self.check(channels, par((1, alt(*rows)), *branches), (0, [(None, 1, WAITING), (None, 2, "stopped")]),
                   (1, reasons), inputs=[[]])
        del rows[3]
        self.check(channels, par((1, alt(*rows[::-1])), *branches), (0, [(None, 1, WAITING), (None, 2, "stopped")]),
                   (1, reasons[::-1]), inputs=[[]])

    def test_joining_in_the_order_of_the_threads(self):
        self.check(["inner"], par((1, SKIP), (2, take(0, cell(0))), (3, STOP), (4, SKIP), (5, put(cell(1), FAULT))),
                   (0, [(None, 2, WAITING), (None, 3, "stopped"), (None, 5, "faulted")]), (2, [(0, None, "nobody")]))
        self.check([], par((1, par((2, STOP), (3, SKIP))), (4, SKIP), (5, par((6, SKIP), (7, STOP)))),
                   (0, [(None, 1, WAITING), (None, 5, WAITING)]), (1, [(None, 2, "stopped")]), (5, [(None, 7, "stopped")]))

    def test_a_par_that_was_repeated(self):
        body = repeat(3, num(1), par((1, give(0, num(1))), (2, seq(take(0, cell(0)), put(cell(1), ("+", cell(1), num(1))),
                                                               when(("==", cell(1), num(2)), STOP)))))
        self.check(["inner"], body, (0, [(None, 2, "stopped")]))

    def test_the_lists_are_the_callers(self):
        core = ("core", 1, ["inner"], par((1, take(0, cell(0)))))
        state = last_of(core)
        found = waits(core, state)
        found[0][1].clear()
        found.clear()
        threads, _ = chain(core, state, 0)
        threads.clear()
        self.assertEqual(waits(core, state), [(0, [(None, 1, WAITING)]), (1, [(0, None, "nobody")])])
        self.assertEqual(chain(core, state, 0), ([0, 1], ("dead", 0, None, "nobody")))


class ChainTest(unittest.TestCase):
    def check(self, channels, body, *expected, inputs=()):
        """Tests the chains (t, threads, end) of a core's last state."""
        core = ("core", 9, channels, body)
        state = last_of(core, inputs)
        before = frozen((core, state))
        self.assertEqual([row[0] for row in expected], [t for t, _ in waits(core, state)])
        for t, threads, end in expected:
            found = chain(core, state, t)
            self.assertEqual(frozen(found), frozen((threads, end)))
            self.assertTrue(is_plain(found))
            self.assertIs(explains(core, state, threads, end), True)
        self.assertEqual(frozen((core, state)), before)

    def test_rings(self):
        ring = par((1, seq(take(0, cell(0)), give(1, num(1)))), (2, seq(take(1, cell(1)), give(0, num(1)))))
        self.check(["inner", "inner"], ring,
                   (0, [0, 1, 2], ("ring", 1)), (1, [1, 2], ("ring", 0)), (2, [2, 1], ("ring", 0)))

    def test_a_ring_of_three_and_a_tail(self):
        body = par(
            (1, seq(take(3, cell(0)), give(4, num(1)))),
            (2, seq(take(0, cell(1)), give(1, num(1)))), (3, seq(take(1, cell(2)), give(2, num(1)))),
            (4, seq(take(2, cell(3)), give(0, num(1)), give(3, num(1)))),
        )
        self.check(["inner"] * 5, body,
                   (0, [0, 1, 4, 3, 2], ("ring", 2)), (1, [1, 4, 3, 2], ("ring", 1)),
                   (2, [2, 4, 3], ("ring", 0)), (3, [3, 2, 4], ("ring", 0)), (4, [4, 3, 2], ("ring", 0)))

    def test_a_ring_through_a_joining_thread(self):
        nested = seq(par((2, take(0, cell(0)))), give(1, num(1)))
        other = seq(take(1, cell(1)), give(0, num(1)))
        self.check(["inner", "inner"], par((1, nested), (3, other)),
                   (0, [0, 1, 2, 3], ("ring", 1)), (1, [1, 2, 3], ("ring", 0)), (2, [2, 3, 1], ("ring", 0)),
                   (3, [3, 1, 2], ("ring", 0)))

    def test_nobody_behind_an_uncle(self):
        # Thread 3 waits for thread 1, which has no end of that channel.
        body = par((1, par((2, take(0, cell(0))))), (3, seq(take(1, cell(1)), give(0, num(1)))))
        self.check(["inner", "inner"], body,
                   (0, [0, 1, 2, 3], ("dead", 1, None, "nobody")), (1, [1, 2, 3], ("dead", 1, None, "nobody")),
                   (2, [2, 3], ("dead", 1, None, "nobody")), (3, [3], ("dead", 1, None, "nobody")))

    def test_dead_ends(self):
        for s, why, more in (
            (when(num(0), give(0, num(1))), "done", ()), (seq(STOP, give(0, num(1))), "stopped", ()),
            (give(0, FAULT), "faulted", ()),
        ):
            self.check(["inner"], par((1, take(0, cell(0))), (2, s)),
                       (0, [0, 1], ("dead", 0, 2, why)), (1, [1], ("dead", 0, 2, why)))
        self.check(["inner"], par((1, take(0, cell(0))), (2, SKIP)),
                   (0, [0, 1], ("dead", 0, None, "nobody")), (1, [1], ("dead", 0, None, "nobody")))
        self.check(["in"], par((1, take(0, cell(0))), (2, SKIP)),
                   (0, [0, 1], ("dead", 0, None, "input")), (1, [1], ("dead", 0, None, "input")), inputs=[[]])
        self.check([], par((1, SKIP), (2, STOP), (3, put(cell(0), FAULT))), (0, [0], ("dead", None, 2, "stopped")))
        self.check([], par((1, put(cell(0), FAULT)), (2, STOP)), (0, [0], ("dead", None, 1, "faulted")))

    def test_the_first_reason_decides(self):
        rows = [(None, 0, cell(0), SKIP), (None, 1, cell(0), SKIP), (None, 2, cell(0), SKIP)]
        others = [(2, seq(take(3, cell(1)), give(1, num(1)), give(3, num(2)))), (3, seq(STOP, give(0, num(1))))]
        for order, threads, end in (
            ((0, 1, 2), [1], ("dead", 0, 3, "stopped")), ((1, 0, 2), [1, 2], ("dead", 3, None, "nobody")),
            ((2, 1, 0), [1], ("dead", 2, None, "nobody")),
        ):
            self.check(["inner"] * 4, par((1, alt(*[rows[k] for k in order])), *others),
                       (0, [0] + threads, end), (1, threads, end), (2, [2], ("dead", 3, None, "nobody")))

    def test_a_chain_that_runs_into_a_dead_thread_behind_waiting_ones(self):
        body = par((1, take(0, cell(0))), (2, seq(take(1, cell(1)), give(0, num(1)))),
                   (3, seq(take(2, cell(2)), give(1, num(1)))))
        self.check(["inner", "inner", "in"], body,
                   (0, [0, 1, 2, 3], ("dead", 2, None, "input")), (1, [1, 2, 3], ("dead", 2, None, "input")),
                   (2, [2, 3], ("dead", 2, None, "input")), (3, [3], ("dead", 2, None, "input")), inputs=[[]])


class ExplainsTest(unittest.TestCase):
    # Thread 1 waits for 2 or 3 or an input, 2 for 1, 3 for 4, which is stopped; 5 is done.
    BODY = par(
        (1, seq(alt((None, 0, cell(0), SKIP), (None, 1, cell(0), SKIP), (None, 5, cell(0), SKIP)), give(2, num(1)))),
        (2, seq(take(2, cell(1)), give(0, num(1)))),
        (3, seq(take(3, cell(2)), give(1, num(1)))),
        (4, seq(STOP, give(3, num(1)))), (5, SKIP), (6, take(4, cell(3))),
    )
    CORE = ("core", 4, ["inner", "inner", "inner", "inner", "inner", "in"], BODY)

    def setUp(self):
        self.state = last_of(self.CORE, [[]])

    def explains(self, expected, threads, *end):
        passed = (self.CORE, self.state, threads, end)
        before = frozen(passed)
        self.assertIs(explains(*passed), expected, (threads, end))
        self.assertEqual(frozen(passed), before)

    def test_the_waits(self):
        self.assertEqual(waits(self.CORE, self.state), [
            (0, [(None, 1, WAITING), (None, 2, WAITING), (None, 3, WAITING), (None, 4, "stopped"), (None, 6, WAITING)]),
            (1, [(0, 2, WAITING), (1, 3, WAITING), (5, None, "input")]),
            (2, [(2, 1, WAITING)]), (3, [(3, 4, "stopped")]), (6, [(4, None, "nobody")]),
        ])

    def test_rings(self):
        self.explains(True, [1, 2], "ring", 0)
        self.explains(True, [2, 1], "ring", 0)
        self.explains(True, [0, 1, 2], "ring", 1)
        self.explains(True, [0, 2, 1], "ring", 1)

    def test_a_wrong_index(self):
        for k in (1, 2, 3, 65535, -1, -2):
            self.explains(False, [1, 2], "ring", k)
            self.explains(False, [2, 1], "ring", k)
        for k in (0, 2, 3, -1, -2, -3):
            self.explains(False, [0, 1, 2], "ring", k)
        for k in (-1, 0, 1):
            self.explains(False, [6], "ring", k)
            self.explains(False, [2], "ring", k)

    def test_a_reason_that_is_not_the_first_one(self):
        self.explains(True, [1, 3], "dead", 3, 4, "stopped")
        self.explains(True, [2, 1, 3], "dead", 3, 4, "stopped")
        self.explains(True, [0, 6], "dead", 4, None, "nobody")
        self.explains(True, [0], "dead", None, 4, "stopped")
        self.explains(True, [1], "dead", 5, None, "input")
        self.explains(True, [0, 3], "dead", 3, 4, "stopped")

    def test_a_thread_twice(self):
        self.explains(False, [1, 2, 1], "ring", 1)
        self.explains(False, [1, 2, 1, 2], "ring", 0)
        self.explains(False, [1, 2, 1, 3], "dead", 3, 4, "stopped")
        self.explains(False, [1, 1], "ring", 0)
        self.explains(False, [6, 6], "dead", 4, None, "nobody")

    def test_a_thread_that_is_not_waiting(self):
        self.explains(False, [4], "dead", 3, 4, "stopped")
        self.explains(False, [5], "dead", None, None, "nobody")
        self.explains(False, [3, 4], "dead", 3, 4, "stopped")
        self.explains(False, [0, 4], "dead", None, 4, "stopped")
        self.explains(False, [0, 4], "ring", 0)
        self.explains(False, [4, 1, 2], "ring", 1)
        self.explains(False, [0, 5, 6], "dead", 4, None, "nobody")

    def test_a_next_thread_that_is_no_reason(self):
        self.explains(False, [2, 3], "dead", 3, 4, "stopped")
        self.explains(False, [1, 6], "dead", 4, None, "nobody")
        self.explains(False, [6, 1, 2], "ring", 1)
        self.explains(False, [2, 0], "ring", 0)
        self.explains(False, [3, 1, 2], "ring", 1)
        self.explains(False, [0, 3, 1, 2], "ring", 2)

    def test_a_part_of_a_chain(self):
        self.explains(False, [1], "dead", 3, 4, "stopped")
        self.explains(False, [0], "dead", 4, None, "nobody")
        self.explains(False, [0], "dead", 3, 4, "stopped")

    def test_wrong_parts_of_a_dead_end(self):
        self.explains(True, [3], "dead", 3, 4, "stopped")
        for c, other, why in (
            (3, 4, "done"), (3, 4, "faulted"), (3, 4, "nobody"), (3, 4, "waiting"), (3, None, "stopped"), (3, 5, "stopped"),
            (2, 4, "stopped"), (None, 4, "stopped"), (3, None, "nobody"), (3, None, "input"),
        ):
            self.explains(False, [3], "dead", c, other, why)
        for c, other, why in ((4, None, "input"), (5, None, "nobody"), (None, None, "nobody"), (4, 4, "nobody")):
            self.explains(False, [6], "dead", c, other, why)
        for c, other, why in ((5, None, "nobody"), (4, None, "input"), (5, 2, "input")):
            self.explains(False, [1], "dead", c, other, why)

    def test_a_dead_end_that_waits(self):
        self.explains(False, [2], "dead", 2, 1, "waiting")
        self.explains(False, [1], "dead", 0, 2, "waiting")
        self.explains(False, [0], "dead", None, 6, "waiting")
        self.explains(False, [1, 2], "dead", 2, 1, "waiting")


class DrawnTest(unittest.TestCase):
    def expected_reasons(self, core, state, t):
        """The reasons as the words of points 12.1 and 12.2 say them."""
        threads = threads_of(core)
        told = ends(state)
        condition = state[1][t]
        if condition[0] == "joining":
            return [(None, other, told[other]) for other in condition[1] if told[other] != "done"]
        giving = condition[0] == "giving"
        found = []
        for c in [condition[1]] if giving else [row[0] for row in condition[1]]:
            if core[2][c] == "in":
                found.append((c, None, "input"))
                continue
            partners, inside = [], t
            while inside and not partners:
                parent = threads[inside][0]
                partners = [other for other in state[1][parent][1]
                            if other != inside and c in touched(threads[other][1])[3 if giving else 2]]
                inside = parent
            self.assertLessEqual(len(partners), 1)
            found.append((c, partners[0], told[partners[0]]) if partners else (c, None, "nobody"))
        return found

    def expected_to_explain(self, reasons, threads, end):
        if len(set(threads)) < len(threads) or not set(threads) <= set(reasons):
            return False
        links = [(a, b) for a in reasons for _, b, _ in reasons[a]]
        if any(pair not in links for pair in zip(threads, threads[1:])):
            return False
        if end[0] == "ring":
            return 0 <= end[1] < len(threads) and (threads[-1], threads[end[1]]) in links
        return end[1:] in reasons[threads[-1]] and end[3] != WAITING

    def test_drawn_cores(self):
        rng = random.Random(31)
        whys, tails, told = {}, {}, {True: 0, False: 0}
        for number in range(500):
            core, inputs = draw_core(rng, alts=number % 2 == 1)
            state = run(core, inputs, [rng.randrange(9) for _ in range(rng.randrange(4))])[0]
            found = waits(core, state)
            expected = [(t, self.expected_reasons(core, state, t)) for t, end in enumerate(ends(state)) if end == WAITING]
            self.assertEqual(frozen(found), frozen(expected))
            reasons = dict(found)
            for t in reasons:
                threads, end = chain(core, state, t)
                self.assertEqual(threads[0], t)
                self.assertIs(explains(core, state, threads, end), True)
                self.assertTrue(self.expected_to_explain(reasons, threads, end))
                for a, b in zip(threads, threads[1:]):
                    self.assertEqual(reasons[a][0][1], b)
                tails[end[0]] = tails.get(end[0], 0) + 1
                for _, _, why in reasons[t]:
                    whys[why] = whys.get(why, 0) + 1
                self.check_others(rng, core, state, reasons, threads, end, told)
        self.assertGreater(min(whys[why] for why in ("waiting", "done", "stopped", "faulted", "nobody", "input")), 5)
        self.assertGreater(min(tails["ring"], tails["dead"]), 50)
        self.assertGreater(min(told.values()), 100)

    def check_others(self, rng, core, state, reasons, threads, end, told):
        """Tests lists that are drawn, and ends that are near the right one."""
        everybody = list(range(len(state[1])))
        for _ in range(3):
            other = list(threads)
            if rng.random() < 0.5:
                other[rng.randrange(len(other))] = rng.choice(everybody)
            if rng.random() < 0.3:
                other.append(rng.choice(everybody))
            last = rng.choice([("ring", rng.randrange(-2, 4)), end])
            if other[-1] in reasons and rng.random() < 0.5:
                last = ("dead",) + rng.choice(reasons[other[-1]])
            expected = self.expected_to_explain(reasons, other, last)
            self.assertIs(explains(core, state, other, last), expected)
            told[expected] += 1


if __name__ == "__main__":
    unittest.main()
