"""Point 6.1: the values of core expressions."""

import unittest

from placedanyhow.words import place, value
from tests.support import frozen

OPERATORS = ("+", "-", "*", "/", "mod", "and", "or", "==", "!=", "<", "<=")
EDGES = (0, 1, 2, 3, 7, 255, 256, 257, 32767, 32768, 65534, 65535)
FAULT = ("/", ("num", 1), ("num", 0))


def num(n):
    return ("num", n)


def worth(operator, a, b):
    return value((operator, num(a), num(b)), [])


class TwoOperandsTest(unittest.TestCase):
    def check(self, operator, *rows):
        for a, b, expected in rows:
            found = worth(operator, a, b)
            self.assertEqual(found, expected, (operator, a, b))
            self.assertIn(type(found), (int, type(None)))

    def test_sums(self):
        self.check("+", (0, 0, 0), (1, 1, 2), (65535, 0, 65535), (65534, 1, 65535), (65535, 1, 0),
                   (1, 65535, 0), (65535, 65535, 65534), (32768, 32768, 0))

    def test_differences(self):
        self.check("-", (0, 0, 0), (1, 0, 1), (0, 1, 65535), (1, 2, 65535), (65535, 65535, 0),
                   (0, 65535, 1), (65535, 1, 65534))

    def test_products(self):
        self.check("*", (0, 65535, 0), (1, 65535, 65535), (255, 257, 65535), (256, 256, 0),
                   (65535, 65535, 1), (65535, 2, 65534), (256, 255, 65280))

    def test_quotients(self):
        self.check("/", (0, 1, 0), (7, 2, 3), (7, 7, 1), (6, 7, 0), (65535, 1, 65535),
                   (65535, 65535, 1), (65535, 2, 32767), (1, 65535, 0))

    def test_remainders(self):
        self.check("mod", (0, 1, 0), (7, 2, 1), (7, 7, 0), (6, 7, 6), (65535, 1, 0),
                   (65535, 65535, 0), (65535, 2, 1), (1, 65535, 1))

    def test_division_by_zero_faults(self):
        for operator in ("/", "mod"):
            self.check(operator, (0, 0, None), (1, 0, None), (65535, 0, None))

    def test_tests(self):
        self.check("==", (0, 0, 1), (0, 1, 0), (65535, 65535, 1), (65535, 0, 0))
        self.check("!=", (0, 0, 0), (0, 1, 1), (65535, 65535, 0), (65535, 0, 1))
        self.check("<", (0, 0, 0), (0, 1, 1), (1, 0, 0), (65534, 65535, 1), (65535, 0, 0))
        self.check("<=", (0, 0, 1), (0, 1, 1), (1, 0, 0), (65535, 65534, 0), (65535, 65535, 1))

    def test_and_and_or(self):
        self.check("and", (0, 0, 0), (0, 1, 0), (1, 0, 0), (1, 1, 1), (2, 4, 1), (65535, 65535, 1))
        self.check("or", (0, 0, 0), (0, 1, 1), (1, 0, 1), (1, 1, 1), (2, 4, 1), (65535, 0, 1))

    def test_all_pairs_of_edges(self):
        for a in EDGES:
            for b in EDGES:
                self.check("+", (a, b, (a + b) % 65536))
                self.check("-", (a, b, (a - b) % 65536))
                self.check("*", (a, b, (a * b) % 65536))
                self.check("/", (a, b, a // b if b else None))
                self.check("mod", (a, b, a % b if b else None))
                self.check("==", (a, b, int(a == b)))
                self.check("!=", (a, b, int(a != b)))
                self.check("<", (a, b, int(a < b)))
                self.check("<=", (a, b, int(a <= b)))
                self.check("and", (a, b, int(a * b > 0)))
                self.check("or", (a, b, int(a + b > 0)))


class OneOperandTest(unittest.TestCase):
    def test_neg(self):
        for a, expected in ((0, 0), (1, 65535), (2, 65534), (32768, 32768), (65535, 1)):
            self.assertEqual(value(("neg", num(a)), []), expected)

    def test_not(self):
        for a, expected in ((0, 1), (1, 0), (2, 0), (65535, 0)):
            found = value(("not", num(a)), [])
            self.assertEqual(found, expected)
            self.assertIs(type(found), int)


class CellTest(unittest.TestCase):
    def test_cells(self):
        self.assertEqual(value(("cell", 0), [5, 6]), 5)
        self.assertEqual(value(("cell", 1), [5, 6]), 6)
        self.assertEqual(value(num(65535), []), 65535)

    def test_items(self):
        cells = [9, 10, 11, 12, 13]
        for index, expected in ((0, 10), (1, 11), (2, 12), (3, None), (4, None), (65535, None)):
            self.assertEqual(value(("at", 1, 3, num(index)), cells), expected)

    def test_items_by_a_cell(self):
        item = ("at", 1, 2, ("cell", 0))
        self.assertEqual(value(item, [0, 8, 9, 7]), 8)
        self.assertEqual(value(item, [1, 8, 9, 7]), 9)
        self.assertIsNone(value(item, [2, 8, 9, 7]))
        self.assertIsNone(value(item, [65535, 8, 9, 7]))

    def test_items_by_items(self):
        item = ("at", 0, 3, ("at", 0, 3, ("+", ("cell", 0), num(1))))
        self.assertEqual(value(item, [1, 7, 0]), 1)
        self.assertEqual(value(item, [0, 2, 5]), 5)
        self.assertIsNone(value(item, [0, 3, 5]))
        self.assertIsNone(value(item, [2, 0, 0]))

    def test_an_index_that_wraps(self):
        cells = [4, 5]
        self.assertEqual(value(("at", 0, 2, ("+", num(65535), num(2))), cells), 5)
        self.assertIsNone(value(("at", 0, 2, ("-", num(0), num(1))), cells))

    def test_an_index_that_faults(self):
        self.assertIsNone(value(("at", 0, 2, FAULT), [4, 5]))
        self.assertIsNone(place(("at", 0, 2, FAULT), [4, 5]))


class PlaceTest(unittest.TestCase):
    def test_places(self):
        self.assertEqual(place(("cell", 0), []), 0)
        self.assertEqual(place(("cell", 7), [1]), 7)
        for index, expected in ((0, 4), (1, 5), (2, 6), (3, None), (65535, None)):
            self.assertEqual(place(("at", 4, 3, num(index)), [3]), expected)
        self.assertEqual(place(("at", 1, 8, ("cell", 0)), [7]), 8)
        self.assertIsNone(place(("at", 1, 8, ("cell", 0)), [8]))
        self.assertEqual(place(("at", 5, 1, num(0)), []), 5)
        self.assertIsNone(place(("at", 5, 1, num(1)), []))

    def test_the_example(self):
        self.assertEqual(value(("-", num(1), ("cell", 0)), [3]), 65534)
        self.assertIsNone(value(("/", ("cell", 0), num(0)), [3]))
        self.assertEqual(place(("at", 4, 3, num(2)), [3]), 6)


class FaultTest(unittest.TestCase):
    FAULTS = (
        FAULT, ("mod", num(0), num(0)), ("at", 0, 2, num(2)), ("at", 0, 2, FAULT),
        ("/", FAULT, num(1)), ("/", num(1), ("mod", num(4), num(2))),
    )

    def test_an_expression_faults_if_a_part_does(self):
        for fault in self.FAULTS:
            self.assertIsNone(value(fault, [0, 1]))
            for operator in OPERATORS:
                for other in (num(0), num(1), ("cell", 0), FAULT):
                    self.assertIsNone(value((operator, fault, other), [0, 1]))
                    self.assertIsNone(value((operator, other, fault), [0, 1]))
            for kind in ("neg", "not"):
                self.assertIsNone(value((kind, fault), [0, 1]))

    def test_a_fault_deep_inside_and_and_or(self):
        for fault in self.FAULTS:
            deep = ("not", ("+", ("*", num(0), ("neg", fault)), num(3)))
            self.assertIsNone(value(("or", num(1), deep), [0, 1]))
            self.assertIsNone(value(("and", num(0), deep), [0, 1]))
            self.assertIsNone(value(("or", deep, num(1)), [0, 1]))
            self.assertIsNone(value(("and", deep, num(0)), [0, 1]))
            self.assertIsNone(value(("or", num(1), ("and", num(0), deep)), [0, 1]))

    def test_a_value_of_zero_is_no_fault(self):
        self.assertEqual(worth("+", 0, 0), 0)
        self.assertEqual(value(("or", ("cell", 0), ("cell", 1)), [0, 0]), 0)
        self.assertEqual(value(("neg", ("cell", 0)), [0]), 0)
        self.assertEqual(value(("at", 0, 1, ("cell", 0)), [0]), 0)

    def test_the_cells_stay_as_they_were(self):
        cells = [1, 0, 65535]
        before = list(cells)
        for e in (FAULT, ("+", ("cell", 2), num(1)), ("at", 0, 3, ("cell", 0)), ("at", 0, 3, num(3))):
            kept = frozen(e)
            value(e, cells)
            place(("at", 0, 3, e), cells)
            self.assertEqual(cells, before)
            self.assertEqual(frozen(e), kept)

    def test_a_long_expression(self):
        chain = ("cell", 0)
        for _ in range(80):
            chain = ("+", chain, ("cell", 0))
        self.assertEqual(value(chain, [1000]), 81000 - 65536)


if __name__ == "__main__":
    unittest.main()
