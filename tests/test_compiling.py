"""Points 14.1 and 14.2: the code of threads."""

import unittest

from placedanyhow.compiling import compile_thread
from placedanyhow.threads import threads
from placedanyhow.work import prepare
from tests.parts import NOTHING, SKIP, STOP, alt, at, cell, fork, give, num, put, repeat, seq, take, when
from tests.support import frozen, is_plain

# Cells and their places: 3 at 0, 4 at 1, 7 to 9 at 2 to 4, 20 at 5.
TAKES = [3, 4, 7, 8, 9, 20]
ROW = at(7, 3, cell(4))
END = ("end",)


class CodeTest(unittest.TestCase):
    def check(self, own, code, more=0, takes=None):
        """Tests the code of a thread without its "end", and how many places it has behind the takes."""
        cells = TAKES if takes is None else takes
        for thread in ((None, cells, cells, own), (0, cells, cells[1:], own)):
            before = frozen(thread)
            found = compile_thread(thread)
            self.assertEqual(frozen(found), frozen((len(cells) + more, code + [END])))
            self.assertTrue(is_plain(found))
            self.assertEqual(frozen(thread), before)


class ExpressionTest(CodeTest):
    """The code of expressions, in "give" statements."""

    def gives(self, e, *code):
        self.check(give(3, e), list(code) + [("give", 3)])

    def test_numbers_and_cells(self):
        self.gives(num(0), ("push", 0))
        self.gives(num(65535), ("push", 65535))
        for k, cell_number in enumerate(TAKES):
            self.gives(cell(cell_number), ("load", k))

    def test_items(self):
        self.gives(ROW, ("load", 1), ("loadx", 2, 3))
        self.gives(at(8, 2, num(1)), ("push", 1), ("loadx", 3, 2))
        self.gives(at(20, 1, num(9)), ("push", 9), ("loadx", 5, 1))
        self.gives(at(3, 2, ROW), ("load", 1), ("loadx", 2, 3), ("loadx", 0, 2))

    def test_operations(self):
        for operator in ("+", "-", "*", "/", "mod", "and", "or", "==", "!=", "<", "<="):
            self.gives((operator, cell(20), num(4)), ("load", 5), ("push", 4), ("calc", operator))
        self.gives(("neg", cell(7)), ("load", 2), ("neg",))
        self.gives(("not", cell(7)), ("load", 2), ("not",))

    def test_operands_from_left_to_right(self):
        e = ("-", ("*", cell(3), ("neg", cell(4))), ("not", ("/", ROW, ("+", num(1), num(2)))))
        self.gives(e, ("load", 0), ("load", 1), ("neg",), ("calc", "*"), ("load", 1), ("loadx", 2, 3),
                   ("push", 1), ("push", 2), ("calc", "+"), ("calc", "/"), ("not",), ("calc", "-"))
        self.gives(at(7, 2, ("mod", cell(20), num(2))), ("load", 5), ("push", 2), ("calc", "mod"), ("loadx", 2, 2))


class SimpleTest(CodeTest):
    def test_skip_stop_and_fork(self):
        self.check(SKIP, [])
        self.check(STOP, [("stop",)])
        self.check(fork(), [("fork", [])])
        self.check(fork((3, [4, 7]), (5, []), (6, [20])), [("fork", [(3, [4, 7]), (5, []), (6, [20])])])

    def test_no_takes(self):
        self.check(SKIP, [], takes=[])
        self.check(give(0, num(7)), [("push", 7), ("give", 0)], takes=[])
        self.check(repeat(1, num(1), SKIP), [
            ("push", 0), ("store", 0), ("load", 0), ("push", 1), ("calc", "<"), ("jzero", 13), ("push", 1), ("jzero", 13),
            ("load", 0), ("push", 1), ("calc", "+"), ("store", 0), ("jump", 2),
        ], 1, takes=[])

    def test_set(self):
        self.check(put(cell(20), num(7)), [("push", 7), ("store", 5)])
        self.check(put(cell(3), ("+", cell(3), cell(4))), [("load", 0), ("load", 1), ("calc", "+"), ("store", 0)])

    def test_set_of_an_item(self):
        self.check(put(ROW, cell(20)), [("load", 5), ("load", 1), ("storex", 2, 3)])
        self.check(put(at(8, 2, num(0)), ROW), [("load", 1), ("loadx", 2, 3), ("push", 0), ("storex", 3, 2)])
        self.check(put(at(7, 3, at(8, 2, cell(3))), num(5)),
                   [("push", 5), ("load", 0), ("loadx", 3, 2), ("storex", 2, 3)])

    def test_give(self):
        self.check(give(0, ("not", cell(20))), [("load", 5), ("not",), ("give", 0)])

    def test_take(self):
        self.check(take(6, cell(20)), [("take", 6), ("store", 5)])
        self.check(take(0, cell(3)), [("take", 0), ("store", 0)])

    def test_take_of_an_item(self):
        self.check(take(6, ROW), [
            ("load", 1), ("check", 3), ("store", 6), ("take", 6), ("load", 6), ("storex", 2, 3),
        ], 1)
        self.check(take(6, at(8, 2, at(7, 3, ("-", cell(3), num(1))))), [
            ("load", 0), ("push", 1), ("calc", "-"), ("loadx", 2, 3), ("check", 2), ("store", 6),
            ("take", 6), ("load", 6), ("storex", 3, 2),
        ], 1)

    def test_the_example(self):
        self.assertEqual(
            compile_thread((None, [4], [4], ("take", 1, ("at", 4, 1, ("num", 0))))),
            (2, [("push", 0), ("check", 1), ("store", 1), ("take", 1), ("load", 1), ("storex", 0, 1), ("end",)]),
        )

    def test_seq(self):
        self.check(NOTHING, [])
        self.check(seq(SKIP, put(cell(3), num(1)), seq(NOTHING, STOP), give(2, num(0))),
                   [("push", 1), ("store", 0), ("stop",), ("push", 0), ("give", 2)])
        self.check(seq(take(6, ROW), take(5, at(20, 1, num(0)))), [
            ("load", 1), ("check", 3), ("store", 6), ("take", 6), ("load", 6), ("storex", 2, 3),
            ("push", 0), ("check", 1), ("store", 7), ("take", 5), ("load", 7), ("storex", 5, 1),
        ], 2)


class IfTest(CodeTest):
    def test_both_sides(self):
        self.check(when(cell(3), put(cell(4), num(1)), give(2, cell(20))), [
            ("load", 0), ("jzero", 5), ("push", 1), ("store", 1), ("jump", 7), ("load", 5), ("give", 2),
        ])

    def test_an_empty_side(self):
        self.check(when(cell(3), STOP), [("load", 0), ("jzero", 4), ("stop",), ("jump", 4)])
        self.check(when(cell(3), SKIP, STOP), [("load", 0), ("jzero", 3), ("jump", 4), ("stop",)])
        self.check(when(cell(3), NOTHING, SKIP), [("load", 0), ("jzero", 3), ("jump", 3)])

    def test_behind_and_inside_of_others(self):
        self.check(seq(STOP, when(("<", cell(3), num(2)), when(cell(4), STOP), when(num(1), SKIP, STOP)), STOP), [
            ("stop",), ("load", 0), ("push", 2), ("calc", "<"), ("jzero", 10),
            ("load", 1), ("jzero", 9), ("stop",), ("jump", 9), ("jump", 14),
            ("push", 1), ("jzero", 13), ("jump", 14), ("stop",), ("stop",),
        ])


class RepeatTest(CodeTest):
    def test_repeat(self):
        self.check(repeat(9, ("<", cell(3), cell(4)), put(cell(20), num(7))), [
            ("push", 0), ("store", 6), ("load", 6), ("push", 9), ("calc", "<"), ("jzero", 17),
            ("load", 0), ("load", 1), ("calc", "<"), ("jzero", 17), ("push", 7), ("store", 5),
            ("load", 6), ("push", 1), ("calc", "+"), ("store", 6), ("jump", 2),
        ], 1)

    def test_n(self):
        for n in (0, 1, 65535):
            self.check(seq(STOP, repeat(n, num(1), SKIP), STOP), [
                ("stop",), ("push", 0), ("store", 6), ("load", 6), ("push", n), ("calc", "<"), ("jzero", 14),
                ("push", 1), ("jzero", 14), ("load", 6), ("push", 1), ("calc", "+"), ("store", 6), ("jump", 3), ("stop",),
            ], 1)

    def test_repeats_within_repeats_have_new_places(self):
        inner = lambda k, head: [
            ("push", 0), ("store", k), ("load", k), ("push", 3), ("calc", "<"), ("jzero", head + 11), ("load", 1),
            ("jzero", head + 11), ("load", k), ("push", 1), ("calc", "+"), ("store", k), ("jump", head),
        ]
        # Each of the inner ones has 13 instructions, the first one from 8 on, the second one from 21 on.
        self.check(repeat(2, cell(3), seq(repeat(3, cell(4), SKIP), repeat(3, cell(4), NOTHING))), [
            ("push", 0), ("store", 6), ("load", 6), ("push", 2), ("calc", "<"), ("jzero", 39), ("load", 0), ("jzero", 39),
        ] + inner(7, 10) + inner(8, 23) + [
            ("load", 6), ("push", 1), ("calc", "+"), ("store", 6), ("jump", 2),
        ], 3)

    def test_a_place_behind_that_of_a_target_inside(self):
        self.check(seq(repeat(1, num(1), take(2, at(20, 1, num(0)))), take(2, at(20, 1, num(0)))), [
            ("push", 0), ("store", 6), ("load", 6), ("push", 1), ("calc", "<"), ("jzero", 19), ("push", 1), ("jzero", 19),
            ("push", 0), ("check", 1), ("store", 7), ("take", 2), ("load", 7), ("storex", 5, 1),
            ("load", 6), ("push", 1), ("calc", "+"), ("store", 6), ("jump", 2),
            ("push", 0), ("check", 1), ("store", 8), ("take", 2), ("load", 8), ("storex", 5, 1),
        ], 3)


class AltTest(CodeTest):
    def test_no_rows(self):
        self.check(alt(), [("either", [])])
        self.check(seq(alt(), STOP), [("either", []), ("stop",)])

    def test_one_row(self):
        self.check(alt((None, 4, cell(20), STOP)), [
            ("push", 1), ("store", 6), ("load", 6), ("jzero", 4), ("either", [(4, 6, 5)]),
            ("store", 5), ("stop",), ("jump", 8),
        ], 1)
        self.check(alt((("<", cell(3), num(2)), 0, cell(3), SKIP)), [
            ("load", 0), ("push", 2), ("calc", "<"), ("store", 6), ("load", 6), ("jzero", 6), ("either", [(0, 6, 7)]),
            ("store", 0), ("jump", 9),
        ], 1)

    def test_one_row_with_a_place_for_its_target(self):
        self.check(alt((None, 4, ROW, STOP)), [
            ("push", 1), ("store", 6), ("load", 6), ("jzero", 7), ("load", 1), ("check", 3), ("store", 7),
            ("either", [(4, 6, 8)]), ("load", 7), ("storex", 2, 3), ("stop",), ("jump", 12),
        ], 2)

    def test_several_rows(self):
        rows = [
            (cell(3), 4, cell(4), put(cell(3), num(5))), (None, 0, ROW, NOTHING), (num(0), 7, at(8, 2, ROW), take(1, ROW)),
        ]
        self.check(seq(STOP, alt(*rows), STOP), [
            ("stop",),
            ("load", 0), ("store", 6), ("push", 1), ("store", 7), ("push", 0), ("store", 8),
            ("load", 6), ("jzero", 9),
            ("load", 7), ("jzero", 14), ("load", 1), ("check", 3), ("store", 9),
            ("load", 8), ("jzero", 20), ("load", 1), ("loadx", 2, 3), ("check", 2), ("store", 10),
            ("either", [(4, 6, 21), (0, 7, 25), (7, 8, 28)]),
            ("store", 1), ("push", 5), ("store", 0), ("jump", 37),
            ("load", 9), ("storex", 2, 3), ("jump", 37),
            ("load", 10), ("storex", 3, 2),
            ("load", 1), ("check", 3), ("store", 11), ("take", 1), ("load", 11), ("storex", 2, 3),
            ("jump", 37), ("stop",),
        ], 6)

    def test_rows_inside_of_rows(self):
        inner = alt((None, 1, cell(4), SKIP))
        self.check(alt((None, 0, cell(3), inner), (None, 2, cell(3), repeat(1, num(0), SKIP))), [
            ("push", 1), ("store", 6), ("push", 1), ("store", 7), ("load", 6), ("jzero", 6), ("load", 7), ("jzero", 8),
            ("either", [(0, 6, 9), (2, 7, 18)]),
            ("store", 0),
            ("push", 1), ("store", 8), ("load", 8), ("jzero", 14), ("either", [(1, 8, 15)]), ("store", 1), ("jump", 17),
            ("jump", 33),
            ("store", 0), ("push", 0), ("store", 9), ("load", 9), ("push", 1), ("calc", "<"), ("jzero", 32), ("push", 0),
            ("jzero", 32), ("load", 9), ("push", 1), ("calc", "+"), ("store", 9), ("jump", 21), ("jump", 33),
        ], 4)

    def test_places_of_guards_come_before_those_of_targets(self):
        row = lambda c: (None, c, at(20, 1, num(0)), SKIP)
        found = compile_thread((None, TAKES, TAKES, alt(row(1), row(2), row(3))))
        self.assertEqual(found[0], len(TAKES) + 6)
        self.assertEqual([one[1] for one in found[1] if one[0] == "store"], [6, 7, 8, 9, 10, 11])
        either = [one for one in found[1] if one[0] == "either"][0]
        self.assertEqual([r[:2] for r in either[1]], [(1, 6), (2, 7), (3, 8)])


class WholeTest(CodeTest):
    def test_a_text(self):
        core = prepare(
            "program p in a; out b; main { word x; channel c; "
            "together { { take a into x; give x to c; } { word y; take c into y; give y * 2 to b; } } take a into x; }"
        )
        found = [compile_thread(row) for row in threads(core)]
        self.assertEqual(found, [
            (2, [("fork", [(1, [0]), (2, [1])]), ("take", 0), ("store", 0), END]),
            (1, [("take", 0), ("store", 0), ("load", 0), ("give", 2), END]),
            (1, [("take", 2), ("store", 0), ("load", 0), ("push", 2), ("calc", "*"), ("give", 1), END]),
        ])

    def test_the_lists_may_change_later(self):
        row = [3, 4]
        thread = (None, list(TAKES), list(TAKES), seq(fork((1, row)), alt((None, 2, cell(3), SKIP))))
        kept = frozen(thread)
        many, code = compile_thread(thread)
        expected = frozen((many, code))
        row.append(99)
        thread[3][1][0][1].clear()
        thread[1].clear()
        self.assertEqual(frozen((many, code)), expected)
        row.pop()
        thread[3][1][0][1].append((1, row))
        thread[1].extend(TAKES)
        self.assertEqual(frozen(thread), kept)
        code[0][1][0][1].clear()
        code[0][1].clear()
        code.clear()
        self.assertEqual(frozen(thread), kept)
        self.assertEqual(frozen(compile_thread(thread)), expected)


if __name__ == "__main__":
    unittest.main()
