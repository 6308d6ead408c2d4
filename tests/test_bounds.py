"""Point 3.4: what may be open at once. Most texts have one token in each line."""

import unittest

from placedanyhow.parsing import parse_program
from tests.support import parsed, text_error

FRONT = ["program", "p", "main", "{"]


def result(words):
    """Whether a text with one word in each line is parsed, or its error."""
    found = parsed("\n".join(words))
    return "parsed" if found[0] == "program" else found


def error_at(words, index):
    """The error of the word with an index, which is in the line behind it."""
    assert 0 <= index < len(words)
    return text_error(index + 1)


def assign(words):
    """The words of a program that assigns an expression to x."""
    return FRONT + ["x", "="] + words + [";", "}"]


AT = len(FRONT) + 2


class BraceTest(unittest.TestCase):
    def check(self, opening, closing):
        """Opening and closing are words for seven braces inside that of "main"."""
        fits = FRONT + opening + closing + ["}"]
        self.assertEqual(result(fits), "parsed")
        inner = FRONT + opening + ["{"] + ["}"] + closing + ["}"]
        self.assertEqual(result(inner), error_at(inner, len(FRONT + opening)))

    def test_blocks(self):
        self.check(["{"] * 7, ["}"] * 7)

    def test_braces_of_all_kinds(self):
        either = ["either", "{", "take", "c", "into", "x", "then", "{"]
        branch = ["if", "x", "{", "}", "else", "{"]
        repeat = ["repeat", "1", "while", "x", "{"]
        spread = ["together", "for", "i", "from", "1", "to", "2", "{"]
        opening = ["together", "{"] + either + branch + repeat + spread + ["{"]
        self.check(opening, ["}"] * 7)

    def test_every_kind_of_brace_may_be_the_one_too_many(self):
        opening = FRONT + ["{"] * 7
        for words in (
            ["together"], ["either"], ["if", "x"], ["repeat", "1", "while", "x"],
            ["together", "for", "i", "from", "1", "to", "2"],
        ):
            text = opening + words + ["{", "}"] + ["}"] * 8
            self.assertEqual(result(text), error_at(text, len(opening + words)))
        rows = FRONT + ["{"] * 6 + ["either", "{"]
        row = ["take", "c", "into", "x", "then"]
        self.assertEqual(result(rows + ["}"] * 8), "parsed")
        text = rows + row + ["{", "}"] + ["}"] * 8
        self.assertEqual(result(text), error_at(text, len(rows + row)))

    def test_the_else_counts_like_the_block_in_front_of_it(self):
        opening = FRONT + ["{"] * 6
        fits = opening + ["if", "x", "{", "}", "else", "{", "}"] + ["}"] * 7
        self.assertEqual(result(fits), "parsed")

    def test_braces_that_are_closed_do_not_count(self):
        many = ["{"] * 7 + ["}"] * 7
        self.assertEqual(result(FRONT + many * 5 + ["}"]), "parsed")
        text = FRONT + many + ["{"] * 8 + ["}"] * 8 + ["}"]
        self.assertEqual(result(text), error_at(text, len(FRONT + many) + 7))

    def test_processes(self):
        opening = ["program", "p", "process", "q", "(", ")"]
        rest = ["main"] + ["{"] * 8 + ["}"] * 8
        self.assertEqual(result(opening + ["{"] * 8 + ["}"] * 8 + rest), "parsed")
        text = opening + ["{"] * 9 + ["}"] * 9 + rest
        self.assertEqual(result(text), error_at(text, len(opening) + 8))

    def test_far_too_many(self):
        text = FRONT + ["{"] * 5000
        self.assertEqual(result(text), error_at(text, len(FRONT) + 7))


class OperatorTest(unittest.TestCase):
    def test_forty_and_forty_one(self):
        for operator in ("+", "-", "*", "/", "mod", "and", "or"):
            words = assign(["1"] + [operator, "1"] * 40)
            self.assertEqual(result(words), "parsed")
            words = assign(["1"] + [operator, "1"] * 41)
            self.assertEqual(result(words), error_at(words, AT + 1 + 80))

    def test_tests_count(self):
        tests = ["1", "==", "1"] + ["and", "1", "<", "1"] * 19
        self.assertEqual(result(assign(tests + ["+", "1"])), "parsed")
        for operator in ("==", "!=", "<", "<="):
            words = assign(tests + ["and", "1", operator, "1"])
            self.assertEqual(result(words), error_at(words, AT + len(tests) + 2))

    def test_operators_of_one_operand_count(self):
        for operator in ("-", "not"):
            words = assign(["1"] + ["+", operator, "1"] * 20)
            self.assertEqual(result(words), "parsed")
            words = assign(["1"] + ["+", operator, "1"] * 20 + ["+", "1"])
            self.assertEqual(result(words), error_at(words, AT + 61))
            words = assign(["1"] + ["+", "1"] * 40)
            words[AT:AT + 1] = [operator, "1"]
            self.assertEqual(result(words), error_at(words, AT + 2 + 78))
            words = assign(["1"] + ["+", "1"] * 39 + ["+", operator, "1"])
            self.assertEqual(result(words), error_at(words, AT + 1 + 79))

    def test_operators_inside_parentheses_and_brackets_count(self):
        for opening, closing in ((["("], [")"]), (["a", "["], ["]"])):
            inner = opening + ["1"] + ["+", "1"] * 20 + closing
            self.assertEqual(result(assign(inner + ["+", "1"] * 20)), "parsed")
            self.assertEqual(result(assign(["1"] + ["+", "1"] * 19 + ["+"] + inner)), "parsed")
            words = assign(inner + ["+", "1"] * 21)
            self.assertEqual(result(words), error_at(words, AT + len(inner) + 40))
            words = assign(["1"] + ["+", "1"] * 20 + ["+"] + inner)
            self.assertEqual(result(words), error_at(words, AT + 42 + len(opening) + 1 + 38))

    def test_the_next_expression_is_counted_anew(self):
        many = ["1"] + ["+", "1"] * 40
        item = ["a", "["] + many + ["]"]
        for text in (
            item + ["="] + many + [";"] + item + ["="] + many + [";"],
            ["give"] + many + ["to"] + item + [";"],
            ["take"] + item + ["into"] + item + [";"],
            ["call", "q", "("] + many + [","] + item + [","] + many + [")", ";"],
            ["either", "{", "when"] + many + ["take"] + item + ["into"] + item + ["then", "{", "}", "}"],
            ["if"] + many + ["{", "if"] + many + ["{", "}", "}"],
            ["repeat", "1", "while"] + many + ["{", "}"],
        ):
            self.assertEqual(result(FRONT + text + ["}"]), "parsed")

    def test_each_place_of_a_text_is_bounded(self):
        many = ["1"] + ["+", "1"] * 41
        item = ["a", "[", "1"]
        plus = 2 * 40 + 1
        for text, index in (
            (["a", "["] + many + ["]", "=", "1", ";"], 2 + plus),
            (["give"] + many + ["to", "c", ";"], 1 + plus),
            (["give", "1", "to", "c", "["] + many + ["]", ";"], 5 + plus),
            (["take", "c", "["] + many + ["]", "into", "x", ";"], 3 + plus),
            (["take", "c", "into", "a", "["] + many + ["]", ";"], 5 + plus),
            (["call", "q", "("] + many + [")", ";"], 3 + plus),
            (["call", "q", "(", "1", ","] + item + ["]", ","] + many + [")", ";"], 10 + plus),
            (["if"] + many + ["{", "}"], 1 + plus),
            (["repeat", "1", "while"] + many + ["{", "}"], 3 + plus),
            (["either", "{", "when"] + many, 3 + plus),
            (["either", "{", "take", "c", "["] + many, 5 + plus),
            (["either", "{", "take", "c", "into", "a", "["] + many, 7 + plus),
        ):
            words = FRONT + text
            self.assertEqual(result(words), error_at(words, len(FRONT) + index))

    def test_the_operator_itself_is_wrong(self):
        words = FRONT + ["x", "=", "1"] + ["+", "1"] * 40 + ["+"]
        self.assertEqual(result(words), error_at(words, len(words) - 1))
        words = FRONT + ["x", "=", "1"] + ["+", "1"] * 39 + ["+", ";"]
        self.assertEqual(result(words), error_at(words, len(words) - 1))


class LevelTest(unittest.TestCase):
    KINDS = (
        (["("], [")"]), (["a", "["], ["]"]), (["-"], []), (["not"], []),
    )

    def check(self, opening, closing):
        """Opening and closing are words for twelve levels."""
        self.assertEqual(result(assign(opening + ["x"] + closing)), "parsed")
        for words, behind in self.KINDS:
            text = assign(opening + words + ["x"] + behind + closing)
            at = AT + len(opening) + len(words) - 1
            self.assertEqual(result(text), error_at(text, at))

    def test_twelve_and_thirteen_of_one_kind(self):
        for words, behind in self.KINDS:
            self.check(words * 12, behind * 12)

    def test_mixed(self):
        for shift in range(4):
            opening, closing = [], []
            for index in range(12):
                words, behind = self.KINDS[(index + shift) % 4]
                opening = opening + words
                closing = behind + closing
            self.check(opening, closing)

    def test_levels_that_have_ended_do_not_count(self):
        for words, behind in self.KINDS[:2]:
            full = words * 12 + ["x"] + behind * 12
            self.assertEqual(result(assign(full + ["+"] + full + ["*"] + full)), "parsed")
            text = assign(full + ["+"] + words * 13 + ["x"] + behind * 13)
            at = AT + len(full) + 1 + len(words) * 13 - 1
            self.assertEqual(result(text), error_at(text, at))

    def test_a_factor_ends_the_levels_of_its_operators(self):
        for operator in ("-", "not"):
            full = [operator] * 12 + ["x"]
            self.assertEqual(result(assign(full + ["+"] + full + ["+"] + full)), "parsed")
            inner = ["("] + [operator] * 11 + ["x", "+"] + [operator] * 11 + ["x", ")"]
            self.assertEqual(result(assign(inner)), "parsed")
            outer = [operator] * 6 + ["("] + [operator] * 5 + ["x", ")", "*"] + full
            self.assertEqual(result(assign(outer)), "parsed")
            text = assign(["("] + [operator] * 11 + ["x", "+"] + [operator] * 12 + ["x", ")"])
            self.assertEqual(result(text), error_at(text, AT + 1 + 11 + 2 + 11))

    def test_the_operand_of_two_operands_opens_no_level(self):
        words = assign((["x", "-"] * 3 + ["("]) * 12 + ["x", "-", "x"] + [")"] * 12)
        self.assertEqual(result(words), "parsed")

    def test_the_bracket_of_a_place_is_its_first_level(self):
        for front, back in (
            (["a", "["], ["]", "=", "1", ";"]),
            (["give", "1", "to", "c", "["], ["]", ";"]),
            (["take", "c", "["], ["]", "into", "x", ";"]),
            (["take", "c", "into", "a", "["], ["]", ";"]),
        ):
            fits = FRONT + front + ["("] * 11 + ["x"] + [")"] * 11 + back + ["}"]
            self.assertEqual(result(fits), "parsed")
            text = FRONT + front + ["("] * 12 + ["x"] + [")"] * 12 + back + ["}"]
            self.assertEqual(result(text), error_at(text, len(FRONT + front) + 11))

    def test_the_next_expression_is_counted_anew(self):
        full = ["("] * 12 + ["x"] + [")"] * 12
        item = ["a", "["] * 12 + ["x"] + ["]"] * 12
        text = item + ["="] + full + [";", "call", "q", "("] + full + [","] + item + [")", ";"]
        self.assertEqual(result(FRONT + text + ["}"]), "parsed")

    def test_other_brackets_and_parentheses_open_no_level(self):
        words = ["program", "p", "process", "q", "(", ")", "{", "array", "a", "[", "1", "]", ";", "}"]
        words += ["main", "{", "channel", "c", "[", "8", "]", ";", "call", "q", "("]
        words += ["("] * 12 + ["x"] + [")"] * 12 + [")", ";", "}"]
        self.assertEqual(result(words), "parsed")

    def test_far_too_many(self):
        for words, _ in self.KINDS:
            text = FRONT + ["x", "="] + words * 3000
            self.assertEqual(result(text), error_at(text, AT + len(words) * 13 - 1))

    def test_operators_and_levels_together(self):
        words = assign(["-"] * 12 + ["1"] + ["+", "1"] * 28)
        self.assertEqual(result(words), "parsed")
        words = assign(["-"] * 12 + ["1"] + ["+", "1"] * 29)
        self.assertEqual(result(words), error_at(words, AT + 13 + 56))

    def test_the_deepest_program(self):
        body = "{" * 7 + " x = " + "(" * 12 + "x" + ")" * 12 + "; " + "}" * 7
        self.assertEqual(parse_program("program p main {" + body + "}")[0], "program")


if __name__ == "__main__":
    unittest.main()
