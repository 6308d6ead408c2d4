"""Loading images into memories."""

from placedanyhow.errors import CodeError

LONGEST_PART = 8


def packets(target, image):
    """The list of the pairs (target, message) that load an image into a processor."""
    found = []
    for first in range(0, len(image), LONGEST_PART):
        found.append((target, ("load", first, image[first:first + LONGEST_PART], len(image))))
    return found


class Memory:
    """The words of an image that have come so far.

    - words: the list of the words, None where none has come; empty before the first message. It
      is a copy after each message, so one that was read before stays as it was.
    - kept: the words that `words` is a copy of.
    - total: the number of the words of the image, or None before the first message.
    - missing: how many words have not come yet.
    """

    def __init__(self):
        self.words = []
        self.kept = []
        self.total = None
        self.missing = 0

    def load(self, first, words, total):
        """Stores the words of a message, and tells whether the memory is loaded then.

        Raises CodeError, and changes nothing then.
        """
        self.check(first, words, total)
        if self.total is None:
            self.kept = [None] * total
            self.total = total
            self.missing = total
        self.kept[first:first + len(words)] = words
        self.missing -= len(words)
        self.words = list(self.kept)
        return self.missing == 0

    def check(self, first, words, total):
        """Raises CodeError if a message does not fit to those that have come before."""
        known = total if self.total is None else self.total
        end = first + len(words)
        if total != known or end > known:
            raise CodeError(first)
        for index, word in enumerate(self.kept[first:end]):
            if word is not None:
                raise CodeError(first + index)
