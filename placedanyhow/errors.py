"""The errors that the program raises."""


class PlacedError(ValueError):
    """The base class of all errors that the program raises."""


class TextError(PlacedError):
    """A line of a source text breaks the tokens or the grammar."""

    def __init__(self, line):
        self.line = line


class RuleError(PlacedError):
    """A program breaks the rule of this name."""

    def __init__(self, rule):
        self.rule = rule


class PlanError(PlacedError):
    """A network or a placement is refused for this reason."""

    def __init__(self, reason):
        self.reason = reason


class CodeError(PlacedError):
    """Words are refused at this index."""

    def __init__(self, at):
        self.at = at


class CommandError(PlacedError):
    """A line of a script is not a command."""

    def __init__(self, line):
        self.line = line
