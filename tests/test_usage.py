"""Points 7.1, 7.2 and 7.4, and the threads of point 5.5."""

import random
import unittest

from placedanyhow.names import expand
from placedanyhow.parsing import parse_program
from placedanyhow.usage import check_usage, threads_of, touched
from tests.parts import NOTHING, SKIP, STOP, at, cell, num, seq
from tests.support import frozen, is_plain, outcome, prepared, rule_error


def par(*parts):
    return ("par", [(index + 1, part) for index, part in enumerate(parts)])


class TouchedTest(unittest.TestCase):
    def check(self, s, reads, writes, gives=(), takes=()):
        before = frozen(s)
        found = touched(s)
        self.assertEqual(found, (list(reads), list(writes), list(gives), list(takes)))
        self.assertTrue(is_plain(found))
        self.assertEqual(frozen(s), before)

    def test_simple_statements(self):
        self.check(SKIP, [], [])
        self.check(STOP, [], [])
        self.check(("set", cell(3), num(1)), [], [3])
        self.check(("set", cell(3), cell(3)), [3], [3])
        self.check(("set", cell(0), ("+", cell(5), cell(2))), [2, 5], [0])
        self.check(("give", 4, num(1)), [], [], [4])
        self.check(("give", 4, ("neg", cell(2))), [2], [], [4])
        self.check(("take", 0, cell(2)), [], [2], [], [0])

    def test_expressions(self):
        for operator in ("+", "-", "*", "/", "mod", "and", "or", "==", "!=", "<", "<="):
            self.check(("give", 0, (operator, cell(4), cell(1))), [1, 4], [], [0])
            self.check(("give", 0, (operator, num(4), num(1))), [], [], [0])
        for kind in ("neg", "not"):
            self.check(("give", 0, (kind, cell(4))), [4], [], [0])
        deep = ("+", ("*", cell(9), ("not", cell(3))), ("-", cell(3), ("neg", cell(0))))
        self.check(("set", cell(1), deep), [0, 3, 9], [1])

    def test_rows_in_expressions(self):
        self.check(("set", cell(0), at(2, 3, num(7))), [2, 3, 4], [0])
        self.check(("set", cell(0), at(2, 3, cell(9))), [2, 3, 4, 9], [0])
        self.check(("set", cell(0), at(2, 1, cell(2))), [2], [0])
        self.check(("give", 1, at(5, 2, at(1, 2, cell(8)))), [1, 2, 5, 6, 8], [], [1])
        self.check(("give", 1, ("+", at(5, 2, num(2)), at(6, 2, num(2)))), [5, 6, 7], [], [1])

    def test_rows_as_targets(self):
        self.check(("set", at(2, 3, num(7)), num(0)), [], [2, 3, 4])
        self.check(("set", at(2, 3, cell(9)), cell(1)), [1, 9], [2, 3, 4])
        self.check(("take", 6, at(2, 2, cell(2))), [2], [2, 3], [], [6])
        self.check(("take", 6, at(2, 2, at(4, 2, cell(0)))), [0, 4, 5], [2, 3], [], [6])

    def test_alternatives(self):
        rows = [
            (None, 5, cell(1), SKIP),
            (("<", cell(9), num(1)), 2, at(3, 2, cell(8)), ("give", 0, cell(7))),
            (num(1), 3, cell(1), ("take", 7, cell(6))),
        ]
        self.check(("alt", rows), [7, 8, 9], [1, 3, 4, 6], [0], [2, 3, 5, 7])
        self.check(("alt", []), [], [])
        self.check(("alt", [(at(2, 2, cell(4)), 0, cell(0), NOTHING)]), [2, 3, 4], [0], [], [0])

    def test_statements_with_parts(self):
        self.check(NOTHING, [], [])
        self.check(
            seq(("set", cell(2), cell(5)), ("set", cell(0), cell(2)), ("set", cell(2), cell(1))),
            [1, 2, 5], [0, 2],
        )
        self.check(
            ("if", cell(4), ("set", cell(1), num(0)), ("give", 2, cell(0))), [0, 4], [1], [2]
        )
        self.check(("repeat", cell(4), 3, ("take", 1, cell(3))), [4], [3], [], [1])
        self.check(("repeat", cell(4), 0, ("take", 1, cell(3))), [4], [3], [], [1])
        self.check(("repeat", at(0, 2, cell(4)), 3, SKIP), [0, 1, 4], [])
        self.check(("par", []), [], [])

    def test_branches(self):
        self.check(
            par(("give", 0, at(2, 2, cell(1))), ("take", 0, cell(0))), [1, 2, 3], [0], [0], [0]
        )
        self.check(
            par(par(("set", cell(9), cell(8))), seq(par(("give", 3, num(0)), ("give", 1, num(0))))),
            [8], [9], [1, 3],
        )

    def test_ascending_and_each_once(self):
        sets = [("set", cell(k), cell(k + 1)) for k in (11, 3, 20, 3, 7, 11)]
        gives = [("give", c, cell(3)) for c in (9, 2, 10, 2)]
        takes = [("take", c, cell(3)) for c in (8, 1, 12, 1)]
        self.check(
            seq(*(sets + gives + takes)), [3, 4, 8, 12, 21], [3, 7, 11, 20], [2, 9, 10], [1, 8, 12]
        )

    def test_the_lists_are_the_callers(self):
        s = ("set", cell(0), cell(1))
        found = touched(s)
        found[0].append(7)
        found[1].clear()
        self.assertEqual(touched(s), ([1], [0], [], []))


class UsageTest(unittest.TestCase):
    def keeps(self, s):
        before = frozen(s)
        self.assertIsNone(check_usage(("core", 64, ["inner"] * 24, s)))
        self.assertEqual(frozen(s), before)

    def breaks(self, s):
        self.assertEqual(outcome(check_usage, ("core", 64, ["inner"] * 24, s)), rule_error("usage"))

    def both(self, check, first, second):
        """Checks two branches, in both orders, with others beside them, and inside others."""
        other = ("set", cell(60), cell(61))
        for a, b in ((first, second), (second, first)):
            check(par(a, b))
            check(par(a, SKIP, b))
            check(par(other, a, b))
            check(par(a, b, other))
            check(seq(SKIP, par(seq(SKIP, a), ("if", num(1), SKIP, b))))

    WRITES = (
        ("set", cell(3), num(1)), ("take", 20, cell(3)), ("set", at(2, 2, num(9)), num(0)),
        ("take", 20, at(3, 1, num(0))), ("alt", [(None, 20, cell(3), SKIP)]),
        ("if", num(0), ("set", cell(3), num(1)), SKIP), ("repeat", num(0), 0, ("set", cell(3), num(1))),
        ("alt", [(num(0), 20, cell(50), ("set", cell(3), num(1)))]),
    )
    READS = (
        ("give", 21, cell(3)), ("set", cell(40), cell(3)), ("give", 21, at(0, 4, num(0))),
        ("set", at(40, 2, cell(3)), num(0)), ("take", 22, at(40, 2, cell(3))),
        ("alt", [(cell(3), 22, cell(40), SKIP)]), ("alt", [(None, 22, at(40, 2, cell(3)), SKIP)]),
        ("if", cell(3), SKIP, SKIP), ("repeat", cell(3), 0, SKIP), ("if", num(1), SKIP, ("give", 21, cell(3))),
    )

    def test_a_cell_that_is_written_and_read(self):
        for write in self.WRITES:
            for read in self.READS:
                self.both(self.breaks, write, read)

    def test_a_cell_that_both_write(self):
        for write in self.WRITES:
            for other in (
                ("set", cell(3), num(2)), ("take", 21, cell(3)), ("set", at(3, 2, num(9)), num(0)),
                ("alt", [(None, 21, cell(3), SKIP)]),
            ):
                self.both(self.breaks, write, other)

    def test_cells_that_both_only_read(self):
        for read in self.READS:
            self.both(self.keeps, read, ("give", 23, ("+", cell(3), at(0, 5, cell(3)))))

    def test_different_cells(self):
        for write in self.WRITES:
            self.both(self.keeps, write, ("set", cell(4), cell(1)))
            self.both(self.keeps, write, ("set", at(4, 3, cell(5)), at(0, 2, num(1))))
        self.both(self.breaks, ("set", at(2, 2, num(0)), num(0)), ("give", 0, cell(2)))
        self.both(self.keeps, ("set", at(2, 2, num(0)), num(0)), ("give", 0, cell(4)))

    GIVES = (("give", 5, num(1)), seq(SKIP, ("give", 5, num(1))), ("if", num(0), SKIP, ("give", 5, num(1))))
    TAKES = (
        ("take", 5, cell(8)), ("alt", [(None, 5, cell(8), SKIP)]), ("alt", [(num(0), 5, cell(8), SKIP)]),
        ("alt", [(None, 6, cell(8), ("take", 5, cell(8)))]), ("repeat", num(1), 2, ("take", 5, cell(8))),
    )

    def test_both_give(self):
        for give in self.GIVES:
            self.both(self.breaks, give, ("give", 5, num(2)))
            self.both(self.keeps, give, ("give", 4, num(2)))

    def test_both_take(self):
        for take in self.TAKES:
            self.both(self.breaks, take, ("take", 5, cell(9)))
            self.both(self.breaks, take, ("alt", [(None, 7, cell(9), SKIP), (None, 5, cell(9), SKIP)]))
            self.both(self.keeps, take, ("take", 4, cell(9)))

    def test_two_ends_of_a_channel(self):
        for give in self.GIVES:
            for take in self.TAKES:
                self.both(self.keeps, give, take)

    def test_one_branch_may_do_anything(self):
        s = seq(("set", cell(0), cell(0)), ("give", 0, cell(0)), ("give", 0, cell(0)), ("take", 0, cell(0)))
        self.keeps(s)
        self.keeps(par(s))
        self.keeps(par(s, SKIP))
        self.keeps(("par", []))
        self.keeps(SKIP)

    def test_what_stands_outside_of_the_par(self):
        write = ("set", cell(0), cell(1))
        self.keeps(seq(write, par(write, SKIP), write))
        self.keeps(seq(("take", 0, cell(0)), par(("take", 0, cell(0)))))

    def test_branches_of_two_pars_one_after_the_other(self):
        first = ("par", [(1, ("set", cell(0), num(1))), (2, ("give", 0, num(1)))])
        second = ("par", [(3, ("set", cell(0), cell(0))), (4, ("give", 0, num(1)))])
        self.keeps(seq(first, second))
        self.keeps(("if", num(1), first, second))
        self.breaks(par(first, second))

    def test_pars_inside_branches(self):
        bad = par(("set", cell(0), num(1)), ("give", 0, cell(0)))
        good = par(("set", cell(1), num(1)), ("give", 0, cell(2)))
        for wrap in (
            lambda s: par(SKIP, s),
            lambda s: par(SKIP, seq(STOP, s)),
            lambda s: ("if", num(1), SKIP, s),
            lambda s: ("if", num(1), s, SKIP),
            lambda s: ("repeat", num(1), 3, s),
            lambda s: ("alt", [(None, 3, cell(9), SKIP), (None, 4, cell(9), s)]),
            lambda s: par(par(SKIP, par(s))),
            lambda s: seq(good, s),
        ):
            self.breaks(wrap(bad))
            self.keeps(wrap(good))
        self.breaks(par(good, ("set", cell(2), num(0))))
        self.breaks(par(par(SKIP, ("give", 3, cell(7))), seq(par(("take", 4, cell(7))))))
        self.keeps(par(par(SKIP, ("give", 3, cell(7))), seq(par(("take", 4, cell(8))))))

    def test_texts(self):
        front = "program p in a; out b; main { word x; array r[3]; channel c; channel d[2]; "
        for text, keeps in (
            ("together { x = 1; r[0] = 1; }", True),
            ("together { r[0] = 1; r[1] = r[2]; }", True),
            ("together { r[0] = 1; r[1] = r[0]; }", False),
            ("together { r[x] = 1; r[1] = 2; }", False),
            ("together { r[x] = 1; skip; }", True),
            ("together { r[5] = 1; r[1] = 2; }", False),
            ("together { give 1 to d[0]; give 1 to d[1]; }", True),
            ("together { give 1 to d[0]; give 1 to d[0]; }", False),
            ("together { give 1 to b; give 1 to b; }", False),
            ("together { take a into x; take a into r[0]; }", False),
            ("together for i from 0 to 2 { r[i] = i; }", True),
            ("together for i from 0 to 2 { r[0] = i; }", False),
            ("together for i from 0 to 2 { word y; y = x; }", True),
            ("together for i from 1 to 1 { x = x; }", True),
            ("repeat 3 while 1 { together { { word y; y = 1; } { word y; y = 2; } } }", True),
            ("repeat 3 while 1 { word y; together { y = 1; { word y; y = 2; } } }", True),
            ("repeat 3 while 1 { word y; together { y = 1; give y to c; } }", False),
        ):
            found = prepared(front + text + " }")
            if keeps:
                self.assertEqual(found[0], "core", text)
            else:
                self.assertEqual(found, rule_error("usage"), text)

    def test_calls(self):
        front = "program p out b; process q(word x, channel c) { x = x + 1; give x to c; } " \
                "main { word y; channel c; channel d; "
        self.assertEqual(prepared(front + "together { call q(y, c); call q(y, d); } }")[0], "core")
        found = prepared(front + "together { call q(y, c); call q(y, c); } }")
        self.assertEqual(found, rule_error("usage"))
        found = prepared(front + "together { call q(y, c); y = 1; } }")
        self.assertEqual(found, rule_error("usage"))

    def test_the_example(self):
        one = ("set", cell(0), num(1))
        self.assertEqual(outcome(check_usage, ("core", 1, [], par(one, one))), rule_error("usage"))
        self.assertIsNone(check_usage(("core", 4, ["inner"], par(
            ("give", 0, at(2, 2, cell(1))), ("take", 0, cell(0))))))


class ThreadsTest(unittest.TestCase):
    def check(self, s, *pairs):
        core = ("core", 1, ["inner"], s)
        before = frozen(core)
        found = threads_of(core)
        self.assertEqual(found, [(None, s)] + list(pairs))
        self.assertTrue(is_plain(found))
        self.assertEqual(frozen(core), before)

    def test_one_thread(self):
        for s in (SKIP, NOTHING, ("par", []), ("alt", []), ("if", num(1), SKIP, STOP)):
            self.check(s)

    def test_branches(self):
        give = ("give", 0, at(2, 2, cell(1)))
        take = ("take", 0, cell(0))
        self.check(par(give, take), (0, give), (0, take))

    def test_branches_within_branches(self):
        inner = ("par", [(2, SKIP), (3, ("seq", [("par", [(4, STOP)]), ("par", [(5, SKIP)])]))])
        s = ("par", [(1, inner), (6, ("par", [(7, SKIP)])), (8, STOP)])
        self.check(
            s,
            (0, inner), (1, SKIP), (1, inner[1][1][1]), (3, STOP), (3, SKIP),
            (0, ("par", [(7, SKIP)])), (6, SKIP), (0, STOP),
        )

    def test_branches_within_other_statements(self):
        row = ("alt", [
            (None, 0, cell(0), ("par", [(3, SKIP)])), (num(1), 1, cell(0), ("par", [(4, STOP)])),
        ])
        s = seq(
            ("if", cell(0), ("par", [(1, SKIP)]), seq(("par", [(2, STOP)]))),
            row,
            ("repeat", num(1), 3, seq(("par", [(5, ("repeat", num(1), 2, ("par", [(6, SKIP)])))]))),
            ("par", [(7, STOP)]),
        )
        self.check(
            s, (0, SKIP), (0, STOP), (0, SKIP), (0, STOP),
            (0, ("repeat", num(1), 2, ("par", [(6, SKIP)]))), (5, SKIP), (0, STOP),
        )

    def test_the_numbers_are_those_of_the_expansion(self):
        core = expand(parse_program(
            "program p process q() { together { skip; stop; } } main { word x; together { call q(); "
            "{ if x { together { x = 1; } } repeat 2 while 1 { call q(); } } } }"
        ))
        skip_stop = seq(seq(("par", [(2, SKIP), (3, STOP)])))
        found = threads_of(core)
        self.assertEqual([pair[0] for pair in found], [None, 0, 1, 1, 0, 4, 4, 4])
        self.assertEqual(found[1][1], skip_stop)
        self.assertEqual([pair[1] for pair in found[5:]], [("set", cell(0), num(1)), SKIP, STOP])

    def test_the_list_is_the_callers(self):
        core = ("core", 0, [], par(SKIP))
        threads_of(core).clear()
        self.assertEqual(threads_of(core), [(None, par(SKIP)), (0, SKIP)])


class DrawnTest(unittest.TestCase):
    """The rule, as its words say it, of drawn statements."""

    def draw(self, rng, depth, threads):
        kind = rng.choice(("set", "give", "take", "skip", "par", "seq", "if", "alt")[:4 if depth == 0 else 8])
        e = rng.choice((num(1), cell(rng.randrange(9)), at(rng.randrange(8), 2, cell(8))))
        target = rng.choice((cell(rng.randrange(9)), at(rng.randrange(8), 2, num(0))))
        if kind == "set":
            return (kind, target, e)
        if kind == "give":
            return (kind, rng.randrange(9), e)
        if kind == "take":
            return (kind, rng.randrange(9), target)
        if kind == "skip":
            return SKIP
        if kind == "if":
            return (kind, e, self.draw(rng, depth - 1, threads), self.draw(rng, depth - 1, threads))
        if kind == "alt":
            return (kind, [(e, rng.randrange(9), target, self.draw(rng, depth - 1, threads))])
        if kind == "seq":
            return (kind, [self.draw(rng, depth - 1, threads) for _ in range(rng.randrange(3))])
        rows = []
        for _ in range(rng.randrange(1, 4)):
            threads.append(None)
            thread = len(threads)
            rows.append((thread, self.draw(rng, depth - 1, threads)))
        return (kind, rows)

    def pars(self, s):
        found = [s] if s[0] == "par" else []
        inner = {
            "seq": lambda: s[1], "par": lambda: [row[1] for row in s[1]],
            "alt": lambda: [row[3] for row in s[1]], "if": lambda: s[2:4],
        }.get(s[0], list)()
        for part in inner:
            found = found + self.pars(part)
        return found

    def is_wrong(self, s):
        for one in self.pars(s):
            parts = [touched(row[1]) for row in one[1]]
            for i, a in enumerate(parts):
                for j, b in enumerate(parts):
                    written = set(a[1]) & (set(b[0]) | set(b[1]))
                    if i != j and (written or set(a[2]) & set(b[2]) or set(a[3]) & set(b[3])):
                        return True
        return False

    def test_drawn_statements(self):
        rng = random.Random(41)
        results = {True: 0, False: 0}
        for _ in range(1500):
            s = self.draw(rng, 3, [])
            wrong = self.is_wrong(s)
            results[wrong] += 1
            expected = rule_error("usage") if wrong else None
            self.assertEqual(outcome(check_usage, ("core", 10, ["inner"] * 9, s)), expected)
        self.assertGreater(min(results.values()), 100)


if __name__ == "__main__":
    unittest.main()
