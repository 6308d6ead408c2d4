"""Point 21.1, and point 14.1 for the instructions that concern only a thread."""

import random
import unittest

from placedanyhow.compiling import compile_thread
from placedanyhow.words import place, value
from placedanyhow.workspaces import Workspace
from tests.cores import OPERATORS
from tests.parts import at, cell, give, num, put, take
from tests.support import frozen

# The instructions that concern more than the thread.
MORE = [
    ("give", 3), ("take", 3), ("either", [(1, 0, 2)]), ("either", []), ("fork", [(2, [4])]), ("fork", []), ("end",),
]


def workspace(cells=(), stack=(), code=()):
    """A workspace with these words at its places and on its stack."""
    work = Workspace(1, (0, len(cells), [], [], list(code)), [])
    for k, word in enumerate(cells):
        assert work.step(("push", word)) and work.step(("store", k))
    for word in stack:
        assert work.step(("push", word))
    return work


def draw_any(rng, cells, depth):
    """An expression with operators and rows of all kinds, which faults often."""
    if depth == 0 or rng.random() < 0.2:
        return rng.choice((num(rng.choice((0, 1, 2, 300, 65535))), cell(rng.choice(cells))))
    kind = rng.randrange(6)
    if kind == 0:
        return (rng.choice(("neg", "not")), draw_any(rng, cells, depth - 1))
    if kind == 1:
        first = rng.choice(cells)
        return at(first, rng.randrange(1, len(cells) - first + 1), draw_any(rng, cells, depth - 1))
    return (rng.choice(OPERATORS), draw_any(rng, cells, depth - 1), draw_any(rng, cells, depth - 1))


def seen(work):
    """All that can be seen of a workspace."""
    return frozen((
        work.number, work.parent, work.takes, work.gives, work.code, work.cells, work.stack, work.at, work.state,
    ))


class CreatedTest(unittest.TestCase):
    def test_the_fields(self):
        code = [("push", 7), ("either", [(1, 2, 3)]), ("fork", [(4, [5, 6])]), ("end",)]
        work = Workspace(3, (2, 5, [4, 8, 9], [8], code), [1, 0, 65535])
        expected = frozen((3, 2, [4, 8, 9], [8], code, [1, 0, 65535, 0, 0], [], 0, "ready"))
        self.assertEqual(seen(work), expected)
        self.assertEqual(set(vars(work)) >= {"number", "parent", "takes", "gives", "code", "cells", "stack", "at", "state"}, True)

    def test_thread_0(self):
        work = Workspace(0, (None, 0, [], [], [("end",)]), [])
        self.assertEqual(seen(work), frozen((0, None, [], [], [("end",)], [], [], 0, "ready")))

    def test_the_example(self):
        work = Workspace(3, (0, 2, [5], [5], [("push", 7), ("store", 0), ("end",)]), [1])
        found = [work.step(("load", 0)), work.step(("push", 0)), work.step(("calc", "/")), work.state, work.step(("end",))]
        self.assertEqual(found, [True, True, True, "faulted", False])
        self.assertEqual([work.cell(5), work.cells], [1, [1, 0]])

    def test_the_places_behind_the_values_are_0(self):
        for places in range(3, 9):
            work = Workspace(1, (0, places, [2, 3, 5], [], []), [7, 8, 9])
            self.assertEqual(work.cells, [7, 8, 9] + [0] * (places - 3))

    def test_workspaces_are_apart(self):
        thread = (0, 2, [3], [], [("push", 1), ("store", 0), ("stop",)])
        one, other = Workspace(1, thread, [5]), Workspace(1, thread, [6])
        before = seen(other)
        for _ in range(3):
            one.advance()
        one.step(("push", 4))
        self.assertEqual(seen(other), before)

    def test_what_is_passed_may_change_later(self):
        takes, gives, values = [4, 8], [8], [1, 2]
        rows, branches, cells = [(1, 2, 3)], [], [5]
        branches.append((4, cells))
        code = [("push", 7), ("either", rows), ("fork", branches), ("end",)]
        thread = (2, 3, takes, gives, code)
        passed = frozen((thread, values))
        work = Workspace(3, thread, values)
        self.assertEqual(frozen((thread, values)), passed)
        before = seen(work)
        for changed in (takes, gives, values, rows, branches, cells, code):
            changed.clear()
        self.assertEqual(seen(work), before)
        self.assertEqual([work.cell(4), work.cell(8)], [1, 2])
        self.assertEqual([work.advance() for _ in range(4)], [
            ("push", 7), ("either", [(1, 2, 3)]), ("fork", [(4, [5])]), ("end",),
        ])

    def test_a_workspace_does_not_modify_what_is_passed(self):
        thread = (2, 3, [4, 8], [8], [("push", 7), ("store", 0), ("push", 1), ("store", 2), ("stop",)])
        values = [1, 2]
        passed = frozen((thread, values))
        work = Workspace(3, thread, values)
        for _ in range(5):
            work.advance()
        work.store(8, 9)
        self.assertEqual(work.cells, [7, 9, 1])
        self.assertEqual(frozen((thread, values)), passed)


class CellTest(unittest.TestCase):
    def test_cells_of_the_program(self):
        work = Workspace(1, (0, 5, [2, 7, 30], [7], []), [4, 5, 6])
        self.assertEqual([work.cell(2), work.cell(7), work.cell(30)], [4, 5, 6])
        self.assertIsNone(work.store(7, 65535))
        self.assertEqual(work.cells, [4, 65535, 6, 0, 0])
        work.store(30, 0)
        work.store(2, 1)
        self.assertEqual(work.cells, [1, 65535, 0, 0, 0])
        self.assertEqual([work.cell(2), work.cell(7), work.cell(30)], [1, 65535, 0])

    def test_cells_and_places(self):
        work = Workspace(1, (0, 4, [1, 3], [], []), [8, 9])
        work.step(("push", 5))
        work.step(("store", 1))
        self.assertEqual([work.cell(1), work.cell(3)], [8, 5])
        work.store(1, 6)
        work.step(("load", 0))
        self.assertEqual(work.stack, [6])

    def test_nothing_else_changes(self):
        work = Workspace(1, (0, 4, [1, 3], [], [("end",)]), [8, 9])
        work.step(("push", 5))
        work.store(3, 7)
        work.cell(3)
        self.assertEqual(seen(work), frozen((1, 0, [1, 3], [], [("end",)], [8, 7, 0, 0], [5], 0, "ready")))


class StepTest(unittest.TestCase):
    def check(self, instruction, before, after):
        """Tests an instruction with the words at the places and on the stack before and after."""
        work = workspace(*before)
        passed = frozen(instruction)
        at = work.at
        self.assertIs(work.step(instruction), True)
        self.assertEqual((work.cells, work.stack), (list(after[0]), list(after[1])), instruction)
        self.assertEqual((work.state, work.at), ("ready", at))
        self.assertEqual(frozen(instruction), passed)

    def check_fault(self, instruction, cells, stack):
        work = workspace(cells, stack)
        self.assertIs(work.step(instruction), True)
        self.assertEqual((work.state, work.cells), ("faulted", list(cells)), instruction)

    def test_push(self):
        for n in (0, 1, 65535):
            self.check(("push", n), ([], []), ([], [n]))
            self.check(("push", n), ([4], [5, 6]), ([4], [5, 6, n]))

    def test_load(self):
        self.check(("load", 0), ([7, 8], [1]), ([7, 8], [1, 7]))
        self.check(("load", 1), ([7, 8], []), ([7, 8], [8]))
        self.check(("load", 0), ([0], []), ([0], [0]))

    def test_store(self):
        self.check(("store", 0), ([7, 8], [1, 2]), ([2, 8], [1]))
        self.check(("store", 1), ([7, 8], [65535]), ([7, 65535], []))
        self.check(("store", 1), ([7, 8], [0]), ([7, 0], []))

    def test_loadx(self):
        for index, word in enumerate((7, 8, 9)):
            self.check(("loadx", 1, 3), ([6, 7, 8, 9, 10], [4, index]), ([6, 7, 8, 9, 10], [4, word]))
        self.check(("loadx", 0, 1), ([5], [0]), ([5], [5]))
        for index in (3, 4, 65535):
            self.check_fault(("loadx", 1, 3), [6, 7, 8, 9, 10], [4, index])
        self.check_fault(("loadx", 0, 1), [5, 6], [1])

    def test_storex(self):
        for index in range(3):
            cells = [6, 7, 8, 9, 10]
            cells[1 + index] = 65535
            self.check(("storex", 1, 3), ([6, 7, 8, 9, 10], [4, 65535, index]), (cells, [4]))
        # The index is on top, and the word below.
        self.check(("storex", 0, 3), ([6, 7, 8], [2, 1]), ([6, 2, 8], []))
        for index in (3, 4, 65535):
            self.check_fault(("storex", 1, 3), [6, 7, 8, 9, 10], [4, 1, index])
        self.check_fault(("storex", 0, 2), [5, 6, 7], [0, 2])

    def test_check(self):
        for size in (1, 2, 8):
            for index in {0, size - 1}:
                self.check(("check", size), ([5], [3, index]), ([5], [3, index]))
            for index in (size, size + 1, 65535):
                self.check_fault(("check", size), [5], [3, index])

    def test_operations(self):
        for operand, negative, inverse in ((0, 0, 1), (1, 65535, 0), (2, 65534, 0), (32768, 32768, 0), (65535, 1, 0)):
            self.check(("neg",), ([5], [6, operand]), ([5], [6, negative]))
            self.check(("not",), ([5], [6, operand]), ([5], [6, inverse]))

    def test_calc(self):
        for operator, first, second, worth in (
            ("+", 1, 2, 3), ("+", 65535, 1, 0), ("+", 65535, 65535, 65534), ("+", 0, 0, 0),
            ("-", 5, 3, 2), ("-", 3, 5, 65534), ("-", 0, 65535, 1), ("-", 7, 7, 0),
            ("*", 3, 4, 12), ("*", 256, 256, 0), ("*", 65535, 65535, 1), ("*", 65535, 2, 65534), ("*", 0, 9, 0),
            ("/", 7, 2, 3), ("/", 2, 7, 0), ("/", 65535, 1, 65535), ("/", 0, 5, 0),
            ("mod", 7, 2, 1), ("mod", 2, 7, 2), ("mod", 65535, 256, 255), ("mod", 6, 3, 0),
            ("and", 0, 0, 0), ("and", 0, 2, 0), ("and", 2, 0, 0), ("and", 2, 1, 1),
            ("or", 0, 0, 0), ("or", 0, 2, 1), ("or", 2, 0, 1), ("or", 2, 1, 1),
            ("==", 4, 4, 1), ("==", 4, 5, 0), ("!=", 4, 4, 0), ("!=", 4, 5, 1),
            ("<", 4, 5, 1), ("<", 5, 4, 0), ("<", 4, 4, 0), ("<=", 4, 5, 1), ("<=", 5, 4, 0), ("<=", 4, 4, 1),
            ("<", 0, 65535, 1), ("<", 65535, 0, 0), ("<=", 65535, 0, 0),
        ):
            self.check(("calc", operator), ([8], [9, first, second]), ([8], [9, worth]))

    def test_calc_by_0(self):
        for operator in ("/", "mod"):
            for first in (0, 1, 65535):
                self.check_fault(("calc", operator), [1, 2, 3], [9, first, 0])

    def test_calc_of_all_operators(self):
        rng = random.Random(106)
        for _ in range(400):
            operator = rng.choice(OPERATORS)
            first, second = (rng.choice((0, 1, 2, 255, 256, 32767, 65535, rng.randrange(65536))) for _ in range(2))
            worth = value((operator, num(first), num(second)), [])
            if worth is None:
                self.check_fault(("calc", operator), [1], [first, second])
            else:
                self.check(("calc", operator), ([1], [first, second]), ([1], [worth]))

    def test_jump(self):
        for address in (0, 1, 4, 65535):
            work = workspace([5], [6])
            self.assertIs(work.step(("jump", address)), True)
            self.assertEqual((work.at, work.cells, work.stack, work.state), (address, [5], [6], "ready"))

    def test_jzero(self):
        for address in (0, 1, 4):
            work = workspace([5], [6, 0])
            work.at = 2
            self.assertIs(work.step(("jzero", address)), True)
            self.assertEqual((work.at, work.cells, work.stack, work.state), (address, [5], [6], "ready"))
            for word in (1, 2, 65535):
                work = workspace([5], [6, word])
                work.at = 2
                self.assertIs(work.step(("jzero", address)), True)
                self.assertEqual((work.at, work.cells, work.stack, work.state), (2, [5], [6], "ready"))

    def test_stop(self):
        work = workspace([5], [6])
        self.assertIs(work.step(("stop",)), True)
        self.assertEqual((work.cells, work.stack, work.state), ([5], [6], "stopped"))

    def test_what_concerns_more_than_the_thread(self):
        for instruction in MORE:
            work = workspace([0, 5], [6, 7], [("push", 1), ("end",)])
            before, passed = seen(work), frozen(instruction)
            self.assertIs(work.step(instruction), False)
            self.assertEqual(seen(work), before)
            self.assertEqual(frozen(instruction), passed)


class AdvanceTest(unittest.TestCase):
    def advanced(self, code, *before):
        """A workspace after one instruction of a code, with a test of what is returned."""
        work = workspace(*before, code=code)
        self.assertEqual(frozen(work.advance()), frozen(code[0]))
        return work

    def test_the_address_becomes_the_next_one(self):
        for instruction in (
            ("push", 3), ("load", 0), ("store", 0), ("loadx", 0, 2), ("storex", 0, 2), ("check", 2), ("neg",), ("not",),
            ("calc", "+"), ("jzero", 9), ("stop",),
        ):
            by_step = workspace([5, 6], [7, 1, 1])
            by_step.step(instruction)
            work = self.advanced([instruction, ("end",)], [5, 6], [7, 1, 1])
            self.assertEqual((work.at, work.cells, work.stack, work.state), (1, by_step.cells, by_step.stack, by_step.state))

    def test_what_concerns_more_than_the_thread(self):
        for instruction in MORE:
            work = self.advanced([instruction, ("end",)], [0, 6], [7, 8])
            self.assertEqual((work.at, work.cells, work.stack, work.state), (1, [0, 6], [7, 8], "ready"))

    def test_jumps(self):
        for address in (0, 1, 2, 7):
            work = self.advanced([("jump", address), ("end",)], [5], [0])
            self.assertEqual((work.at, work.stack), (address, [0]))
            work = self.advanced([("jzero", address), ("end",)], [5], [4, 0])
            self.assertEqual((work.at, work.stack), (address, [4]))
            work = self.advanced([("jzero", address), ("end",)], [5], [0, 4])
            self.assertEqual((work.at, work.stack), (1, [0]))

    def test_a_jump_back(self):
        work = workspace([0], code=[("load", 0), ("push", 1), ("calc", "+"), ("store", 0), ("jump", 0)])
        addresses = []
        for _ in range(12):
            work.advance()
            addresses.append(work.at)
        self.assertEqual(addresses, [1, 2, 3, 4, 0] * 2 + [1, 2])
        self.assertEqual((work.cells, work.stack), ([2], [2, 1]))

    def test_faults(self):
        for instruction, stack in (
            (("calc", "/"), [1, 0]), (("calc", "mod"), [0, 0]), (("check", 2), [2]), (("loadx", 0, 2), [2]),
            (("storex", 0, 2), [9, 2]),
        ):
            work = self.advanced([instruction, ("end",)], [5, 6], stack)
            self.assertEqual((work.cells, work.state), ([5, 6], "faulted"))

    def test_what_is_returned_may_change_later(self):
        code = [("either", [(1, 0, 0)]), ("fork", [(2, [3])]), ("jump", 0)]
        work = workspace([4], code=code)
        for _ in range(2):
            first, second = work.advance(), work.advance()
            self.assertEqual((first, second), (("either", [(1, 0, 0)]), ("fork", [(2, [3])])))
            first[1].clear()
            second[1][0][1].clear()
            second[1].clear()
            work.advance()
        self.assertEqual(code, [("either", [(1, 0, 0)]), ("fork", [(2, [3])]), ("jump", 0)])


class ExpressionTest(unittest.TestCase):
    """The code of expressions pushes their values."""

    def executed(self, own, takes, words):
        """The workspace that has executed the code of a statement up to "give", "take" or "end"."""
        places, code = compile_thread((None, takes, [], own))
        work = Workspace(0, (None, places, takes, [], code), words)
        while work.state == "ready":
            if work.advance()[0] in ("give", "take", "end"):
                break
        return work

    def check(self, e, words):
        """Returns whether the expression faults."""
        cells = list(range(len(words)))
        work = self.executed(give(0, e), cells, words)
        worth = value(e, words)
        self.assertEqual(work.cells[:len(words)], words)
        if worth is None:
            self.assertEqual(work.state, "faulted", e)
            return True
        self.assertEqual((work.state, work.stack), ("ready", [worth]), e)
        return False

    def test_each_operator(self):
        for operator in OPERATORS:
            for first in (0, 1, 7, 65535):
                for second in (0, 1, 7, 65535):
                    self.check((operator, num(first), cell(0)), [second])
                    self.check((operator, cell(1), cell(0)), [second, first])
        for kind in ("neg", "not"):
            for word in (0, 1, 65535):
                self.check((kind, cell(0)), [word])

    def test_drawn_expressions(self):
        rng = random.Random(107)
        faults = 0
        for _ in range(1500):
            words = [rng.choice((0, 1, 2, 3, 255, 65535, rng.randrange(65536))) for _ in range(rng.randrange(1, 8))]
            e = draw_any(rng, list(range(len(words))), rng.randrange(6))
            faults += self.check(e, words)
        self.assertGreater(faults, 200)
        self.assertLess(faults, 1200)

    def test_faults_deep_inside(self):
        fault = ("/", num(1), num(0))
        for e in (
            fault, ("and", num(0), fault), ("or", num(1), fault), ("and", fault, num(0)), ("neg", fault), ("not", fault),
            at(0, 2, fault), at(0, 2, num(2)), at(0, 2, ("neg", num(1))), ("*", num(0), at(0, 1, num(1))),
            ("==", ("mod", cell(0), cell(1)), num(3)), at(0, 2, at(0, 2, num(2))),
        ):
            self.assertTrue(self.check(e, [4, 0]), e)

    def test_drawn_targets(self):
        rng = random.Random(108)
        faults = 0
        for _ in range(400):
            words = [rng.randrange(4) for _ in range(6)]
            cells = list(range(6))
            first = rng.randrange(5)
            target = at(first, rng.randrange(1, 7 - first), draw_any(rng, cells, 2))
            e = draw_any(rng, cells, 2)
            work = self.executed(put(target, e), cells, words)
            word, k = value(e, words), place(target, words)
            expected = list(words)
            if word is None or k is None:
                faults += 1
                self.assertEqual(work.state, "faulted")
            else:
                expected[k] = word
                self.assertEqual((work.state, work.stack), ("ready", []))
            self.assertEqual(work.cells[:6], expected)
            # The index of a "take" is tested before a word is waited for.
            waiting = self.executed(take(0, target), cells, words)
            self.assertEqual(waiting.state, "faulted" if k is None else "ready")
        self.assertGreater(faults, 40)
        self.assertLess(faults, 360)


if __name__ == "__main__":
    unittest.main()
