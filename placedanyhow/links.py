"""Links: messages on their way between neighbours."""

from placedanyhow.copies import copied


class Links:
    """The messages that are on the way, by directions.

    - delays: the delays, which are used in turns.
    - many: how many messages were sent so far.
    - lanes: a dict from directions (sender, receiver) to lists of pairs (tick, message), in the
      order of sending, with the tick in which the message is due.
    """

    def __init__(self, delays):
        self.delays = list(delays)
        self.many = 0
        self.lanes = {}

    def send(self, tick, source, goal, message):
        """Sends a message from a processor to a neighbour."""
        lane = self.lanes.setdefault((source, goal), [])
        lane.append((tick + self.next_delay(), copied(message)))

    def next_delay(self):
        """Counts a message, and returns its delay."""
        self.many += 1
        if not self.delays:
            return 1
        return self.delays[(self.many - 1) % len(self.delays)]

    def due(self, tick):
        """Removes the messages that arrive in a tick, and returns the pairs (goal, message)."""
        found = []
        directions = sorted(self.lanes)
        for direction in directions:
            lane = self.lanes[direction]
            # Only the first message is looked at: one that is due earlier waits behind it.
            while lane and lane[0][0] <= tick:
                _, message = lane.pop(0)
                found.append((direction[1], message))
        return found

    def empty(self):
        """Whether no message is on the way."""
        for direction in self.lanes:
            if self.lanes[direction]:
                return False
        return True
