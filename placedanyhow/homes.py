"""The homes of channels, where givers and takers meet."""


class Home:
    """The home of a channel.

    - kind: "in", "out" or "inner".
    - outputs: the words that were given on an "out" channel.
    - left: the words of an "in" channel behind the one that is offered.
    - offer: the word that is offered and its giver, or None for it, as a pair; None without a word.
    - asker: the thread that asks, or None.
    """

    def __init__(self, kind, inputs):
        self.kind = kind
        self.outputs = []
        self.left = list(inputs)
        self.offer = None
        self.asker = None
        self.offer_next()

    def offer_next(self):
        """Offers the next word of an "in" channel, or none if no word is left."""
        self.offer = (self.left.pop(0), None) if self.left else None


class Homes:
    """The homes of one processor, by the numbers of their channels, and the list of the events."""

    def __init__(self, rows, log):
        self.rows = rows
        self.log = log

    def handle(self, message):
        """Handles a message, and returns the pairs of a thread and its answer, in order."""
        home = self.rows[message[1]]
        action = MESSAGES[message[0]]
        return action(home, message, self.log)


# The functions of MESSAGES handle a message to a home, and return the answers.

def offer(home, message, log):
    _, c, word, giver = message
    if home.kind == "out":
        home.outputs.append(word)
        log.append((c, word))
        return [(giver, ("taken", giver))]
    home.offer = (word, giver)
    return offered(home, c)


def ask(home, message, log):
    _, c, asker = message
    home.asker = asker
    return offered(home, c)


def offered(home, c):
    """The answer to the thread that asks if a word is offered."""
    if home.offer is None or home.asker is None:
        return []
    return [(home.asker, ("offered", c, home.asker))]


def accept(home, message, log):
    _, c, asker = message
    if home.offer is None:
        return []
    word, giver = home.offer
    log.append((c, word))
    home.asker = None
    home.offer_next()
    answers = [(asker, ("word", c, word, asker))]
    if giver is not None:
        answers.append((giver, ("taken", giver)))
    return answers


def cancel(home, message, log):
    _, c, asker = message
    home.asker = None
    return [(asker, ("cancelled", c, asker))]


MESSAGES = {
    "offer": offer,
    "ask": ask,
    "accept": accept,
    "cancel": cancel,
}
