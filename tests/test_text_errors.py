"""Point 3.5: the line of the first token that breaks the grammar.

The texts have one token in each line, so the line of an error tells which token was meant.
tests/grammar.py says which token it must be.
"""

import random
import unittest

from placedanyhow.parsing import parse_program
from placedanyhow.tokens import tokenize
from placedanyhow.writing import write_program
from tests import grammar
from tests.drawing import draw_program
from tests.support import parsed, text_error

WHOLE = """
program whole in a, b; out c;
process q(word x, channel d) { give x to d; }
process r() { }
main {
  word x; array r[3]; channel d; channel e[2];
  skip; stop;
  x = not x + r[1] * (2 - -x) mod 3;
  r[x <= 1] = x == 1 and x != 2 or x < 3;
  give x / 2 to e[1];
  take d into r[0];
  together { { skip; } call q(1, d); }
  together for i from 0 to 3 { call r(); }
  either { take a into x then { stop; } when x take e[0] into r[x] then { } }
  if x { skip; } else { x = 1; }
  if x { }
  repeat 4 while x < 3 { x = x + 1; }
}
"""

# A word for each kind of token.
WORDS = (
    "program in out process main word channel array skip stop give to take into together for from "
    "either if else repeat while call when then or and mod not { } ( ) [ ] ; , = == != < <= + - * / "
    "name 7"
).split()


def words_of(text):
    return [str(token[1]) for token in tokenize(text)[:-1]]


def text_of(words):
    """A text with one word in each line, so that the "end" token has a line of its own."""
    return "".join(word + "\n" for word in words)


def tokens_of(words):
    return tokenize(text_of(words))


class ChangeTest(unittest.TestCase):
    def setUp(self):
        self.words = words_of(WHOLE)
        self.prefixes = grammar.prefixes(tokens_of(self.words))

    def check(self, words, same):
        """Checks words of which the first ones are the same as in the text."""
        wrong = grammar.first_wrong(tokens_of(words), self.prefixes[same], same)
        found = parsed(text_of(words))
        if wrong is None:
            self.assertEqual(found[0], "program")
        else:
            self.assertEqual(found, text_error(wrong + 1), words)

    def test_the_text_itself_is_right(self):
        self.check(self.words, 0)
        self.assertEqual(parse_program(text_of(self.words)), parse_program(WHOLE))

    def test_the_text_contains_every_kind_of_token(self):
        kinds = {token[1] if token[0] in ("word", "sign") else token[0] for token in tokenize(WHOLE)}
        self.assertEqual(kinds, set(WORDS) - {"7"} | {"number", "end"})

    def test_a_token_is_left_out(self):
        for at in range(len(self.words)):
            self.check(self.words[:at] + self.words[at + 1:], at)

    def test_a_token_is_doubled(self):
        for at in range(len(self.words)):
            self.check(self.words[:at] + [self.words[at]] + self.words[at:], at)

    def test_two_tokens_are_exchanged(self):
        for at in range(len(self.words) - 1):
            for to in (at + 1, (at + 7) % len(self.words)):
                words = list(self.words)
                words[at], words[to] = words[to], words[at]
                self.check(words, min(at, to))

    def test_a_token_is_put_in(self):
        rng = random.Random(11)
        for at in range(len(self.words) + 1):
            for word in rng.sample(WORDS, 12):
                self.check(self.words[:at] + [word] + self.words[at:], at)

    def test_a_token_is_another_one(self):
        rng = random.Random(12)
        for at in range(len(self.words)):
            for word in rng.sample(WORDS, 6):
                self.check(self.words[:at] + [word] + self.words[at + 1:], at)

    def test_a_text_ends_too_early(self):
        for at in range(len(self.words)):
            self.assertEqual(parsed(text_of(self.words[:at])), text_error(at + 1))
            self.assertEqual(parsed("\n".join(self.words[:at])), text_error(max(1, at)))

    def test_text_behind_the_last_brace(self):
        for word in WORDS:
            words = self.words + [word]
            self.assertEqual(parsed(text_of(words)), text_error(len(words)))
        self.assertEqual(parsed(WHOLE + WHOLE), text_error(WHOLE.count("\n") + 2))
        self.assertEqual(parsed("program p main { } # }")[0], "program")


class EveryPlaceTest(unittest.TestCase):
    """Each word behind each prefix of a short program."""

    TEXTS = (
        "program p in a ; out b ; process q ( word x , channel c ) { } main { }",
        "program p main { word x ; array a [ 1 ] ; channel c [ 2 ] ; either { } }",
        "program p main { if x { } else { } repeat 1 while x { } call q ( x , 1 ) ; }",
        "program p main { either { take c into x then { } when x take c into x then { } } }",
        "program p main { together for i from 1 to 2 { } together { skip ; } give - a [ x ] to c ; }",
    )

    def test_each_word_at_each_place(self):
        for text in self.TEXTS:
            words = text.split()
            prefixes = grammar.prefixes(tokens_of(words))
            for at in range(len(words) + 1):
                for word in WORDS:
                    changed = words[:at] + [word] + words[at:]
                    wrong = grammar.first_wrong(tokens_of(changed), prefixes[at], at)
                    found = parsed(text_of(changed))
                    expected = "program" if wrong is None else text_error(wrong + 1)
                    self.assertEqual(found[0] if wrong is None else found, expected, changed)


class DrawnTest(unittest.TestCase):
    def test_drawn_programs_with_one_change(self):
        rng = random.Random(13)
        for _ in range(60):
            words = words_of(write_program(draw_program(rng)))
            for _ in range(10):
                at = rng.randrange(len(words))
                changed = list(words)
                if rng.random() < 0.5:
                    changed[at:at + 1] = [rng.choice(WORDS)]
                else:
                    changed[at:at] = [rng.choice(words)]
                wrong = grammar.first_wrong(tokens_of(changed))
                found = parsed(text_of(changed))
                expected = "program" if wrong is None else text_error(wrong + 1)
                self.assertEqual(found[0] if wrong is None else found, expected, changed)


class OrderTest(unittest.TestCase):
    def test_the_errors_of_the_tokens_come_first(self):
        for part in ("!", "00", "65536", "_x", "abcdefghijklmnopq", "@"):
            self.assertEqual(parsed("program p main { x = ; }\n\n" + part), text_error(3))
            self.assertEqual(parsed("main\n" + part), text_error(2))
            self.assertEqual(parsed("program p main { } }\n" + part + "\n!"), text_error(2))
            nested = "program p main " + "{" * 9 + "\n" + part
            self.assertEqual(parsed(nested), text_error(2))

    def test_the_first_one_decides(self):
        self.assertEqual(parsed("program p main {\nx = ;\ny = ;\n}"), text_error(2))
        self.assertEqual(parsed("program p main {\n" + "{" * 8 + "\nx = ;"), text_error(2))
        self.assertEqual(parsed("program p main {\nx = ;\n" + "{" * 8), text_error(2))

    def test_the_example(self):
        self.assertEqual(parsed("program p main { x = 1 < 2 < 3; }"), text_error(1))

    def test_empty_texts(self):
        self.assertEqual(parsed(""), text_error(1))
        self.assertEqual(parsed("\n\n"), text_error(3))
        self.assertEqual(parsed("# program p main { }"), text_error(1))

    def test_reserved_words_are_no_names(self):
        self.assertEqual(parsed("program\nword main { }"), text_error(2))
        self.assertEqual(parsed("program p main { word\nin; }"), text_error(2))
        self.assertEqual(parsed("program p main { x =\nmain; }"), text_error(2))

    def test_lists_of_names_are_not_empty(self):
        self.assertEqual(parsed("program p in\n; main { }"), text_error(2))
        self.assertEqual(parsed("program p out\n; main { }"), text_error(2))
        self.assertEqual(parsed("program p in a,\n; main { }"), text_error(2))
        self.assertEqual(parsed("program p out a;\nin b; main { }"), text_error(2))
        self.assertEqual(parsed("program p main { }\nprocess q() { }"), text_error(2))


if __name__ == "__main__":
    unittest.main()
