"""What an expansion has met so far, within the bounds of the rule "size"."""

from placedanyhow.errors import RuleError

MOST_STATEMENTS = 300
MOST_CELLS = 64
MOST_CHANNELS = 24
MOST_THREADS = 12


class Counts:
    """The numbers of the statements, cells and threads, and the kinds of the channels, so far.

    Each method counts something more. Raises RuleError with "size" beyond a bound.
    """

    def __init__(self):
        self.statements = 0
        self.cells = 0
        self.kinds = []
        self.threads = 0

    def count_statement(self):
        self.statements += 1
        check_bound(self.statements, MOST_STATEMENTS)

    def count_cells(self, many):
        """Returns the number of the first one of the new cells."""
        first = self.cells
        self.cells += many
        check_bound(self.cells, MOST_CELLS)
        return first

    def count_channels(self, kind, many):
        """Returns the number of the first one of the new channels."""
        first = len(self.kinds)
        self.kinds.extend([kind] * many)
        check_bound(len(self.kinds), MOST_CHANNELS)
        return first

    def count_thread(self):
        """Returns the number of the new thread."""
        self.threads += 1
        check_bound(self.threads, MOST_THREADS)
        return self.threads - 1


def check_bound(many, most):
    if many > most:
        raise RuleError("size")
