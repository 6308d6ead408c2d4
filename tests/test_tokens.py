"""Points 2.1 to 2.5: tokens."""

import unittest

from placedanyhow.tokens import is_reserved, tokenize
from tests.support import is_plain, outcome, text_error

WORDS = (
    "and array call channel either else for from give if in into main mod not or out process "
    "program repeat skip stop take then to together when while word"
).split()
SIGNS = "{ } ( ) [ ] ; , = == != < <= + - * /".split()


def tokens_of(text):
    return outcome(tokenize, text)


def pairs_of(text):
    """The kinds and values of the tokens of a text, without the "end" token."""
    found = tokenize(text)
    assert found[-1][0] == "end"
    return [token[:2] for token in found[:-1]]


class WordTest(unittest.TestCase):
    def test_each_reserved_word_is_a_word(self):
        self.assertEqual(len(WORDS), 29)
        for word in WORDS:
            self.assertEqual(tokens_of(word), [("word", word, 1), ("end", "", 1)])

    def test_words_with_more_letters_are_names(self):
        for word in WORDS:
            for name in (word + "s", word + "_", word + "1", "x" + word, word.upper(), word.title()):
                self.assertEqual(pairs_of(name), [("name", name)])

    def test_is_reserved(self):
        for word in WORDS:
            self.assertIs(is_reserved(word), True)
            self.assertIs(is_reserved(word.upper()), False)
            self.assertIs(is_reserved(word + "x"), False)
            self.assertIs(is_reserved(word[:-1]), word[:-1] in WORDS)
        for name in ("x", "", "wor", "d", "and array", "neg", "spread", "end"):
            self.assertIs(is_reserved(name), False)


class NameTest(unittest.TestCase):
    def test_names(self):
        names = ("x", "Z", "a1", "a_", "A_b_3", "abcdefghijklmnop", "Q23456789012345_", "l0")
        for name in names:
            self.assertEqual(tokens_of(name), [("name", name, 1), ("end", "", 1)])

    def test_every_letter_and_digit(self):
        for letter in "abcdefghijklmnopqrstuvwxyzABCDEFGHIJKLMNOPQRSTUVWXYZ":
            self.assertEqual(pairs_of(letter), [("name", letter)])
            self.assertEqual(pairs_of("x" + letter), [("name", "x" + letter)])
        for digit in "0123456789_":
            self.assertEqual(pairs_of("x" + digit), [("name", "x" + digit)])


class NumberTest(unittest.TestCase):
    def test_numbers(self):
        for number in (0, 1, 9, 10, 100, 999, 9999, 10000, 65534, 65535):
            self.assertEqual(tokens_of(str(number)), [("number", number, 1), ("end", "", 1)])

    def test_the_value_is_an_integer(self):
        self.assertTrue(is_plain(tokenize("0 1 2")))


class SignTest(unittest.TestCase):
    def test_every_sign(self):
        self.assertEqual(len(SIGNS), 17)
        for sign in SIGNS:
            self.assertEqual(tokens_of(sign), [("sign", sign, 1), ("end", "", 1)])

    def test_the_longest_sign_comes_first(self):
        cases = {
            "<=": ["<="], "< =": ["<", "="], "==": ["=="], "= =": ["=", "="], "!=": ["!="],
            "===": ["==", "="], "<==": ["<=", "="], "<<=": ["<", "<="], "=<": ["=", "<"],
            "!==": ["!=", "="], "====": ["==", "=="], "--": ["-", "-"], "<\n=": ["<", "="],
            "=!=": ["=", "!="], "=#\n=": ["=", "="],
        }
        for text, signs in cases.items():
            self.assertEqual(pairs_of(text), [("sign", sign) for sign in signs])

    def test_all_signs_in_one_row(self):
        text = "{}()[];,+-*/<"
        self.assertEqual(pairs_of(text), [("sign", sign) for sign in text])


class SeparatorTest(unittest.TestCase):
    def test_nothing_between_tokens_that_do_not_run_together(self):
        self.assertEqual(
            tokens_of("a[7]<=b # x"),
            [
                ("name", "a", 1), ("sign", "[", 1), ("number", 7, 1), ("sign", "]", 1),
                ("sign", "<=", 1), ("name", "b", 1), ("end", "", 1),
            ],
        )
        self.assertEqual(
            pairs_of("(x)mod{3}"),
            [
                ("sign", "("), ("name", "x"), ("sign", ")"), ("word", "mod"),
                ("sign", "{"), ("number", 3), ("sign", "}"),
            ],
        )

    def test_spaces_and_newlines(self):
        expected = [("name", "a", 1), ("number", 3, 1), ("end", "", 1)]
        for text in ("a 3", " a 3", "a   3  ", "a 3 # 3"):
            self.assertEqual(tokens_of(text), expected)
        self.assertEqual(
            tokens_of("\na\n\n 3\n"), [("name", "a", 2), ("number", 3, 4), ("end", "", 5)]
        )

    def test_without_a_separator_it_is_one_token(self):
        self.assertEqual(pairs_of("a3"), [("name", "a3")])
        self.assertEqual(pairs_of("giveto"), [("name", "giveto")])

    def test_comments(self):
        self.assertEqual(
            tokens_of("a # b\nc"), [("name", "a", 1), ("name", "c", 2), ("end", "", 2)]
        )
        self.assertEqual(tokens_of("#"), [("end", "", 1)])
        self.assertEqual(tokens_of("#\n#\n"), [("end", "", 3)])
        self.assertEqual(tokens_of("a#b#c"), [("name", "a", 1), ("end", "", 1)])
        self.assertEqual(tokens_of("# 07 ! $ _ 70000 @\nx"), [("name", "x", 2), ("end", "", 2)])
        self.assertEqual(tokens_of("a# \nb#"), [("name", "a", 1), ("name", "b", 2), ("end", "", 2)])

    def test_empty_texts(self):
        self.assertEqual(tokens_of(""), [("end", "", 1)])
        self.assertEqual(tokens_of("   "), [("end", "", 1)])
        self.assertEqual(tokens_of("\n"), [("end", "", 2)])
        self.assertEqual(tokens_of("\n \n#\n"), [("end", "", 4)])

    def test_lines(self):
        text = "a\n\n{ 5\n  while # 6\n\n\nb <=\nz"
        self.assertEqual(
            tokens_of(text),
            [
                ("name", "a", 1), ("sign", "{", 3), ("number", 5, 3), ("word", "while", 4),
                ("name", "b", 7), ("sign", "<=", 7), ("name", "z", 8), ("end", "", 8),
            ],
        )

    def test_a_long_text(self):
        text = "x\n" * 1499 + "y"
        found = tokenize(text)
        self.assertEqual(found[1498:], [("name", "x", 1499), ("name", "y", 1500), ("end", "", 1500)])

    def test_the_list_is_the_callers(self):
        first = tokenize("a b")
        first.clear()
        self.assertEqual(tokens_of("a b"), [("name", "a", 1), ("name", "b", 1), ("end", "", 1)])


class TextErrorTest(unittest.TestCase):
    WRONG = (
        "!", "! =", "@", "$", "&", "|", "~", "?", ":", ".", "'", '"', "\\", "^", "`", ">", ">=",
        "_", "_a", "_1", "abcdefghijklmnopq", "a" * 200, "a2345678901234567", "x" + "_" * 16,
        "00", "01", "007", "0a", "0_", "7a", "7_", "7x7", "1e5", "65536", "65540", "70000", "99999",
        "100000", "9" * 5000, "9" * 20000, "0" * 5000, "1" + "0" * 4400, "5" * 5000 + "a",
    )

    def test_the_line_of_what_is_no_token(self):
        for part in self.WRONG:
            self.assertEqual(tokens_of(part), text_error(1))
            self.assertEqual(tokens_of("a\n\nb " + part + " c\nd"), text_error(3))
            self.assertEqual(tokens_of("a;\n(" + part), text_error(2))

    def test_a_letter_behind_a_number(self):
        for letter in "abcdefghijklmnopqrstuvwxyzABCDEFGHIJKLMNOPQRSTUVWXYZ_":
            self.assertEqual(tokens_of("7" + letter), text_error(1))
            self.assertEqual(tokens_of("\n0" + letter + "1"), text_error(2))

    def test_the_first_one_decides(self):
        for part in self.WRONG:
            self.assertEqual(tokens_of("x\n" + part + "\ny\n!"), text_error(2))
            self.assertEqual(tokens_of("x\n!\ny\n" + part), text_error(2))

    def test_they_may_stand_in_comments(self):
        for part in self.WRONG:
            self.assertEqual(tokens_of("a #" + part), [("name", "a", 1), ("end", "", 1)])
            self.assertEqual(tokens_of("# " + part + "\nb"), [("name", "b", 2), ("end", "", 2)])

    def test_characters_that_no_text_has_are_no_tokens(self):
        for character in ("%", "\t", "\r", "\x00", "\u00e9", "\u0663"):
            self.assertEqual(tokens_of("x\n a" + character + "\n"), text_error(2))

    def test_the_example(self):
        self.assertEqual(tokens_of("give 70000"), text_error(1))


if __name__ == "__main__":
    unittest.main()
