"""Points 7.4, 13.1 and 13.2: parents, takes, gives and own statements of threads."""

import random
import unittest

from placedanyhow.names import expand
from placedanyhow.parsing import parse_program
from placedanyhow.threads import threads
from placedanyhow.usage import threads_of, touched
from tests.cores import draw_core
from tests.parts import (
    FAULT, NOTHING, SKIP, STOP, alt, at, cell, fork, give, num, par, put, repeat, seq, take, when,
)
from tests.support import frozen, is_plain


def threads_of_body(test, body):
    core = ("core", 64, ["inner"] * 9, body)
    before = frozen(core)
    found = threads(core)
    test.assertTrue(is_plain(found))
    test.assertTrue(all(type(row) is tuple and len(row) == 4 for row in found))
    test.assertEqual(frozen(core), before)
    return found


class TakesTest(unittest.TestCase):
    """Takes and gives of a thread without branches, whose own statement is its statement."""

    def check(self, s, takes, gives):
        self.assertEqual(threads_of_body(self, s), [(None, takes, gives, s)])
        rows = threads_of_body(self, par((1, s), (2, SKIP)))
        self.assertEqual(rows[0], (None, takes, gives, fork((1, takes), (2, []))))
        self.assertEqual(rows[1:], [(0, takes, gives, s), (0, [], [], SKIP)])

    def test_nothing(self):
        for s in (SKIP, STOP, NOTHING, alt(), give(0, num(1)), give(0, FAULT)):
            self.check(s, [], [])

    def test_set(self):
        self.check(put(cell(3), num(1)), [3], [3])
        self.check(put(cell(3), cell(3)), [3], [3])
        self.check(put(cell(3), ("+", cell(9), ("neg", cell(1)))), [1, 3, 9], [3])
        self.check(put(cell(9), FAULT), [9], [9])

    def test_rows(self):
        self.check(put(at(4, 3, num(7)), num(1)), [4, 5, 6], [4, 5, 6])
        self.check(put(at(4, 3, cell(9)), num(1)), [4, 5, 6, 9], [4, 5, 6])
        self.check(put(at(4, 3, at(1, 2, cell(20))), num(1)), [1, 2, 4, 5, 6, 20], [4, 5, 6])
        self.check(put(cell(0), at(4, 3, cell(9))), [0, 4, 5, 6, 9], [0])
        self.check(put(at(4, 2, at(4, 2, num(0))), at(5, 2, num(0))), [4, 5, 6], [4, 5])
        self.check(put(at(4, 1, num(2)), num(0)), [4], [4])

    def test_give(self):
        self.check(give(0, cell(5)), [5], [])
        self.check(give(0, at(4, 3, cell(1))), [1, 4, 5, 6], [])

    def test_take(self):
        self.check(take(0, cell(5)), [5], [5])
        self.check(take(0, at(4, 3, cell(1))), [1, 4, 5, 6], [4, 5, 6])

    def test_alt(self):
        self.check(alt((None, 0, cell(5), SKIP)), [5], [5])
        self.check(alt((cell(3), 0, cell(5), give(1, cell(2))), (at(8, 2, cell(1)), 1, at(10, 2, cell(0)), put(cell(7), num(0)))),
                   [0, 1, 2, 3, 5, 7, 8, 9, 10, 11], [5, 7, 10, 11])

    def test_if_and_repeat(self):
        self.check(when(cell(3), put(cell(1), num(0)), give(0, cell(2))), [1, 2, 3], [1])
        self.check(repeat(0, at(3, 2, cell(9)), put(cell(1), num(0))), [1, 3, 4, 9], [1])

    def test_seq(self):
        self.check(seq(put(cell(40), cell(2)), put(cell(30), cell(40)), seq(take(0, cell(2)))), [2, 30, 40], [2, 30, 40])


class ForksTest(unittest.TestCase):
    def check(self, body, *expected):
        self.assertEqual(frozen(threads_of_body(self, body)), frozen(list(expected)))

    ONE = put(cell(1), cell(11))
    TWO = put(cell(2), cell(12))
    ROWS = ((1, [1, 11]), (2, [2, 12]))

    def test_the_example(self):
        core = ("core", 2, [], par((1, put(cell(0), num(3))), (2, put(cell(1), num(4)))))
        self.assertEqual(threads(core)[0], (None, [0, 1], [0, 1], ("fork", [(1, [0]), (2, [1])])))
        self.assertEqual(threads(core)[2], (0, [1], [1], ("set", ("cell", 1), ("num", 4))))

    def test_no_branches(self):
        self.check(par(), (None, [], [], fork()))
        self.check(seq(par(), SKIP, par()), (None, [], [], seq(fork(), SKIP, fork())))

    def test_branches(self):
        self.check(
            par((1, self.ONE), (2, self.TWO)),
            (None, [1, 2, 11, 12], [1, 2], fork(*self.ROWS)), (0, [1, 11], [1], self.ONE), (0, [2, 12], [2], self.TWO),
        )
        self.check(par((1, SKIP)), (None, [], [], fork((1, []))), (0, [], [], SKIP))

    def test_within_other_statements(self):
        s, t = par((1, self.ONE)), par((2, self.TWO))
        one, two = fork((1, [1, 11])), fork((2, [2, 12]))
        rows = [(0, [1, 11], [1], self.ONE), (0, [2, 12], [2], self.TWO)]
        for body, own, takes, gives in (
            (seq(s, SKIP, t), seq(one, SKIP, two), [1, 2, 11, 12], [1, 2]),
            (seq(seq(s), seq(NOTHING, seq(t))), seq(seq(one), seq(NOTHING, seq(two))), [1, 2, 11, 12], [1, 2]),
            (when(cell(0), s, t), when(cell(0), one, two), [0, 1, 2, 11, 12], [1, 2]),
            (when(cell(0), seq(s, t), SKIP), when(cell(0), seq(one, two), SKIP), [0, 1, 2, 11, 12], [1, 2]),
            (repeat(7, cell(1), seq(s, t)), repeat(7, cell(1), seq(one, two)), [1, 2, 11, 12], [1, 2]),
            (alt((cell(5), 0, cell(6), s), (None, 1, at(8, 2, cell(5)), t)),
             alt((cell(5), 0, cell(6), one), (None, 1, at(8, 2, cell(5)), two)),
             [1, 2, 5, 6, 8, 9, 11, 12], [1, 2, 6, 8, 9]),
            (repeat(0, num(0), when(num(0), SKIP, alt((None, 3, cell(20), seq(s, t))))),
             repeat(0, num(0), when(num(0), SKIP, alt((None, 3, cell(20), seq(one, two))))),
             [1, 2, 11, 12, 20], [1, 2, 20]),
        ):
            self.check(body, (None, takes, gives, own), *rows)

    def test_within_branches(self):
        inner = par((2, self.ONE), (3, SKIP))
        last = repeat(2, cell(30), par((5, par((6, self.TWO)))))
        self.check(
            seq(par((1, seq(inner, give(0, cell(40)))), (4, last))),
            (None, [1, 2, 11, 12, 30, 40], [1, 2], seq(fork((1, [1, 11, 40]), (4, [2, 12, 30])))),
            (0, [1, 11, 40], [1], seq(fork((2, [1, 11]), (3, [])), give(0, cell(40)))),
            (1, [1, 11], [1], self.ONE), (1, [], [], SKIP),
            (0, [2, 12, 30], [2], repeat(2, cell(30), fork((5, [2, 12])))),
            (4, [2, 12], [2], fork((6, [2, 12]))), (5, [2, 12], [2], self.TWO),
        )

    def test_the_rows_of_several_forks(self):
        self.check(
            seq(par((1, SKIP), (2, self.ONE)), par((3, self.TWO)), par((4, SKIP), (5, SKIP))),
            (None, [1, 2, 11, 12], [1, 2], seq(fork((1, []), (2, [1, 11])), fork((3, [2, 12])), fork((4, []), (5, [])))),
            (0, [], [], SKIP), (0, [1, 11], [1], self.ONE), (0, [2, 12], [2], self.TWO), (0, [], [], SKIP), (0, [], [], SKIP),
        )

    def test_a_text(self):
        core = expand(parse_program(
            "program p in a; process q(word n, channel c) { repeat 2 while n { give n to c; n = n - 1; } } "
            "main { array r[3]; word i; channel c; together { call q(2, c); "
            "{ take c into i; together { r[i] = 1; take a into i; } } } }"
        ))
        # The branches of the inner "together" share cell 3: this core breaks "usage", but has threads.
        found = threads(core)
        self.assertEqual([row[0] for row in found], [None, 0, 0, 2, 2])
        self.assertEqual([row[1] for row in found], [[0, 1, 2, 3, 4], [4], [0, 1, 2, 3], [0, 1, 2, 3], [3]])
        self.assertEqual([row[2] for row in found], [[0, 1, 2, 3, 4], [4], [0, 1, 2, 3], [0, 1, 2], [3]])
        self.assertEqual(found[0][3], seq(fork((1, [4]), (2, [0, 1, 2, 3]))))
        self.assertEqual(found[2][3], seq(take(1, cell(3)), fork((3, [0, 1, 2, 3]), (4, [3]))))

    def test_the_lists_may_change_later(self):
        core = ("core", 64, [], seq(par((1, self.ONE), (2, seq(self.TWO)))))
        kept = frozen(core)
        first = threads(core)
        second = frozen(threads(core))
        first[1][1].append(99)
        self.assertEqual(first[0][3], seq(fork((1, [1, 11]), (2, [2, 12]))))
        first[0][3][1][0][1][0][1].clear()
        self.assertEqual(first[2][1], [2, 12])
        first[0][3][1].clear()
        first[2][3][1].clear()
        first[0][1].clear()
        first.clear()
        self.assertEqual(frozen(core), kept)
        self.assertEqual(frozen(threads(core)), second)


class DrawnTest(unittest.TestCase):
    """Point 13.1 and 13.2 of drawn cores."""

    def unforked(self, statements, s):
        """A statement with a "par" in the place of each "fork" again."""
        kind = s[0]
        if kind == "fork":
            return ("par", [(t, statements[t]) for t, _ in s[1]])
        if kind == "seq":
            return (kind, [self.unforked(statements, part) for part in s[1]])
        if kind == "alt":
            return (kind, [row[:3] + (self.unforked(statements, row[3]),) for row in s[1]])
        if kind == "if":
            return s[:2] + (self.unforked(statements, s[2]), self.unforked(statements, s[3]))
        if kind == "repeat":
            return s[:3] + (self.unforked(statements, s[3]),)
        return s

    def forks(self, s):
        """The rows of the forks of a statement, in order, and whether a "par" is left in it."""
        if s[0] == "fork":
            return s[1]
        self.assertNotEqual(s[0], "par")
        parts = {"seq": lambda: s[1], "alt": lambda: [row[3] for row in s[1]],
                 "if": lambda: s[2:], "repeat": lambda: s[3:]}.get(s[0], list)()
        return [row for part in parts for row in self.forks(part)]

    def test_drawn_cores(self):
        rng = random.Random(51)
        many = 0
        for number in range(300):
            core, _ = draw_core(rng, alts=number % 2 == 1)
            found = threads(core)
            rows = threads_of(core)
            self.assertEqual([row[0] for row in found], [parent for parent, _ in rows])
            statements = [s for _, s in rows]
            children = [[] for _ in found]
            for t, (parent, takes, gives, own) in enumerate(found):
                reads, writes, _, _ = touched(statements[t])
                self.assertEqual(takes, sorted(set(reads) | set(writes)))
                self.assertEqual(gives, writes)
                self.assertEqual(self.unforked(statements, own), statements[t])
                forks = self.forks(own)
                self.assertEqual(forks, [(other, found[other][1]) for other, _ in forks])
                if t > 0:
                    children[parent].append(t)
                self.assertEqual([other for other, _ in forks], sorted(other for other, _ in forks))
                many += len(forks)
            for t, row in enumerate(found):
                self.assertEqual([other for other, _ in self.forks(row[3])], children[t])
        self.assertGreater(many, 500)

    def test_branches_do_not_take_what_another_one_gives(self):
        rng = random.Random(52)
        for number in range(100):
            core, _ = draw_core(rng, alts=number % 2 == 1)
            found = threads(core)
            for row in found:
                self.check_forks(found, row[3])

    def check_forks(self, found, s):
        if s[0] == "fork":
            for a, _ in s[1]:
                for b, takes in s[1]:
                    if a != b:
                        self.assertEqual(set(found[a][2]) & set(takes), set())
        for part in {"seq": lambda: s[1], "if": lambda: s[2:], "repeat": lambda: s[3:],
                     "alt": lambda: [row[3] for row in s[1]]}.get(s[0], list)():
            self.check_forks(found, part)


if __name__ == "__main__":
    unittest.main()
