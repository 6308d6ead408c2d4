"""Reading tokens one after the other, within the bounds of what may be open at once."""

from placedanyhow.errors import TextError

MOST_BRACES = 8
MOST_OPERATORS = 40
MOST_LEVELS = 12


class Reader:
    """A list of tokens, the index of the next one, and what is open in front of it.

    Reserved words and signs are told by their text alone: no name is a reserved word, and the
    value of a number is an integer.
    """

    def __init__(self, tokens):
        self.tokens = tokens
        self.at = 0
        self.braces = 0
        self.operators = 0
        self.levels = 0

    def next_kind(self):
        return self.tokens[self.at][0]

    def next_text(self):
        return self.tokens[self.at][1]

    def refuse(self):
        """Raises TextError, because the text is wrong from the next token on."""
        raise TextError(self.tokens[self.at][2])

    def advance(self):
        """Moves behind the next token and returns its value."""
        taken = self.next_text()
        self.at += 1
        return taken

    def sees(self, text):
        return self.next_text() == text

    def accept(self, text):
        """Moves behind the next token if it is this word or sign, and tells whether it is."""
        if not self.sees(text):
            return False
        self.advance()
        return True

    def expect(self, text):
        if not self.accept(text):
            self.refuse()

    def take_kind(self, kind):
        """Moves behind the next token, which must be of this kind, and returns its value."""
        if self.next_kind() != kind:
            self.refuse()
        return self.advance()

    def take_name(self):
        return self.take_kind("name")

    def take_number(self):
        return self.take_kind("number")

    def open_brace(self):
        if self.braces == MOST_BRACES:
            self.refuse()
        self.expect("{")
        self.braces += 1

    def closes_brace(self):
        """Moves behind the next token if it is "}", and tells whether it is."""
        if not self.accept("}"):
            return False
        self.braces -= 1
        return True

    def begin_expression(self):
        """Begins an expression that is not inside another one, when all levels have ended."""
        self.operators = 0

    def count_operator(self):
        """Counts the next token as an operator, without moving."""
        if self.operators == MOST_OPERATORS:
            self.refuse()
        self.operators += 1

    def open_level(self):
        """Counts the next token as one that opens a level, without moving."""
        if self.levels == MOST_LEVELS:
            self.refuse()
        self.levels += 1

    def close_level(self):
        self.levels -= 1
