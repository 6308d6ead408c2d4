"""Point 15.1: instructions as words."""

import random
import unittest

from placedanyhow.coding import decode, encode
from placedanyhow.errors import CodeError, PlacedError
from tests.support import frozen, is_plain

OPERATORS = ("+", "-", "*", "/", "mod", "and", "or", "==", "!=", "<", "<=")
NUMBERED = (("push", 0), ("load", 1), ("store", 2), ("check", 5), ("jump", 9), ("jzero", 10), ("give", 11), ("take", 12))
INDEXED = (("loadx", 3), ("storex", 4))
BARE = (("neg", 6), ("not", 7), ("end", 15), ("stop", 16))


def pairs():
    """Pairs of an instruction and its words."""
    found = []
    for name, opcode in NUMBERED:
        found += [((name, n), [opcode, n]) for n in (0, 1, 17, 65535)]
    for name, opcode in INDEXED:
        found += [((name, k, n), [opcode, k, n]) for k, n in ((0, 0), (1, 2), (2, 1), (0, 65535), (65535, 0))]
    found += [((name,), [opcode]) for name, opcode in BARE]
    found += [(("calc", operator), [8, index]) for index, operator in enumerate(OPERATORS)]
    for rows in ([], [(0, 0, 0)], [(65535, 65535, 65535)], [(2, 0, 9), (3, 1, 12)], [(1, 2, 3), (0, 4, 0), (13, 14, 8)]):
        found.append((("either", rows), [13, len(rows)] + [n for row in rows for n in row]))
    for rows in (
        [], [(0, [])], [(3, [0, 1])], [(65535, [65535])], [(1, []), (2, [])], [(1, [5, 6, 7]), (2, []), (4, [0])],
        [(9, list(range(64)))],
    ):
        words = [14, len(rows)]
        for t, takes in rows:
            words += [t, len(takes)] + takes
        found.append((("fork", rows), words))
    return found


def refused(words):
    """The number of the CodeError that `decode` raises, or None."""
    try:
        decode(words)
    except CodeError as e:
        return e.at


class EncodeTest(unittest.TestCase):
    def test_each_instruction(self):
        for instruction, words in pairs():
            before = frozen(instruction)
            found = encode(instruction)
            self.assertEqual(frozen(found), frozen(words), instruction)
            self.assertEqual(frozen(instruction), before)

    def test_all_opcodes(self):
        self.assertEqual(sorted({words[0] for _, words in pairs()}), list(range(17)))

    def test_the_example(self):
        self.assertEqual(encode(("either", [(2, 0, 9), (3, 1, 12)])), [13, 2, 2, 0, 9, 3, 1, 12])

    def test_the_lists_may_change_later(self):
        takes = [1, 2]
        instruction = ("fork", [(3, takes)])
        found = encode(instruction)
        takes.clear()
        instruction[1].clear()
        self.assertEqual(found, [14, 1, 3, 2, 1, 2])
        found.clear()
        self.assertEqual(encode(("fork", [(3, [1, 2])])), [14, 1, 3, 2, 1, 2])


class DecodeTest(unittest.TestCase):
    def check(self, words, instructions):
        before = frozen(words)
        found = decode(words)
        self.assertEqual(frozen(found), frozen(instructions))
        self.assertTrue(is_plain(found))
        self.assertEqual(frozen(words), before)

    def test_no_words(self):
        self.check([], [])

    def test_each_instruction(self):
        for instruction, words in pairs():
            self.check(words, [instruction])

    def test_several_instructions(self):
        every = pairs()
        self.check([word for _, words in every for word in words], [instruction for instruction, _ in every])
        for one, words in every:
            for other, behind in every[::7]:
                self.check(words + behind + words, [one, other, one])

    def test_the_example(self):
        self.check([8, 4, 14, 1, 3, 2, 0, 1], [("calc", "mod"), ("fork", [(3, [0, 1])])])
        self.assertEqual(refused([0]), 1)

    def test_the_list_may_change_later(self):
        words = [14, 1, 3, 2, 0, 1, 13, 1, 7, 8, 9]
        found = decode(words)
        words.clear()
        self.assertEqual(found, [("fork", [(3, [0, 1])]), ("either", [(7, 8, 9)])])


class ErrorTest(unittest.TestCase):
    def refuses(self, words, at):
        before = frozen(words)
        self.assertEqual(refused(words), at, words)
        self.assertIs(type(refused(words)), int)
        self.assertEqual(frozen(words), before)

    def test_it_is_an_error_of_the_program(self):
        self.assertTrue(issubclass(CodeError, PlacedError))
        self.assertRaises(PlacedError, decode, [17])
        self.assertRaises(ValueError, decode, [0])

    def test_opcodes_that_do_not_exist(self):
        for opcode in (17, 18, 255, 256, 65535):
            self.refuses([opcode], 0)
            self.refuses([opcode, 0, 0, 0], 0)

    def test_operators_that_do_not_exist(self):
        for operator in (11, 12, 65535):
            self.refuses([8, operator], 0)
            self.refuses([8, operator, 0, 1], 0)

    def test_behind_good_instructions(self):
        front = []
        for _, words in pairs():
            front = front + words
            self.refuses(front + [17], len(front))
            self.refuses(front + [65535, 0], len(front))
            self.refuses(front + [8, 11], len(front))
            self.refuses(front + [8, 11, 0, 0], len(front))
            self.refuses(front + [8], len(front) + 1)

    def test_words_are_missing_at_each_place(self):
        for front in ([], [0, 7, 15], [8, 2]):
            for _, words in pairs():
                for end in range(1, len(words)):
                    self.refuses(front + words[:end], len(front) + end)

    def test_words_are_missing_within_rows(self):
        for words in ([13], [13, 1], [13, 1, 2], [13, 1, 2, 0], [13, 2, 2, 0, 9], [13, 2, 2, 0, 9, 3], [13, 65535, 1]):
            self.refuses(words, len(words))
        for words in (
            [14], [14, 1], [14, 1, 3], [14, 1, 3, 1], [14, 1, 3, 2, 0], [14, 2, 3, 0], [14, 2, 3, 1, 5, 4],
            [14, 2, 3, 1, 5, 4, 1], [14, 65535], [14, 1, 3, 65535], [14, 1, 3, 65535, 1, 2, 3],
        ):
            self.refuses(words, len(words))

    def test_the_first_error_decides(self):
        self.refuses([17, 0], 0)
        self.refuses([0, 1, 17, 0], 2)
        self.refuses([8, 11, 0], 0)
        self.refuses([16, 8, 65535, 14, 9], 1)
        self.refuses([8, 11, 17], 0)
        self.refuses([17, 8, 11], 0)
        self.refuses([6, 17, 99], 1)

    def test_a_row_that_takes_what_looks_like_an_opcode(self):
        self.refuses([13, 1, 17, 17], 4)
        self.refuses([14, 1, 17, 1], 4)
        self.refuses([0, 17, 17], 2)
        self.assertIsNone(refused([13, 1, 17, 17, 17, 0, 17]))

    def test_drawn_words(self):
        rng = random.Random(71)
        found = {"good": 0, "missing": 0, "unknown": 0}
        for _ in range(3000):
            words = [rng.choice((rng.randrange(20), rng.randrange(4))) for _ in range(rng.randrange(10))]
            at = refused(words)
            if at is None:
                self.assertEqual([word for one in decode(words) for word in encode(one)], words)
                found["good"] += 1
            else:
                # What stands in front of the error is good, and what is added behind is not seen.
                found["missing" if at == len(words) else "unknown"] += 1
                if at < len(words):
                    self.assertIsNone(refused(words[:at]))
                    self.assertEqual(refused(words + [0, 0]), at)
                else:
                    self.assertIn(refused(words + [0] * 40), (None, len(words) + 40))
        self.assertGreater(min(found.values()), 100)


if __name__ == "__main__":
    unittest.main()
