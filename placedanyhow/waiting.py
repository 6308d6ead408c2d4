"""What the threads of a processor wait for."""


class Asking:
    """A thread that waits for a word.

    - rows: the list of the pairs (c, p) of a channel that it asks and the address behind.
    - accepted: whether it has accepted an offer.
    - missing: how many of the channels have not answered yet with a word or that they are cancelled.
    - word, address: the word that has come, and where the thread continues; None before.
    """

    def __init__(self, rows):
        self.rows = rows
        self.accepted = False
        self.missing = len(rows)
        self.word = None
        self.address = None


class Joining:
    """A thread that waits for the threads that it started, and how many of them have not ended."""

    def __init__(self, threads):
        self.threads = threads
        self.missing = len(threads)
