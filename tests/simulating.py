"""Another machine, which computes when a message arrives at the moment when it is sent.

It follows points 19.1, 24.1 and 24.2 with the processors of the program.
"""

from placedanyhow.homes import Home, Homes
from placedanyhow.images import build_images
from placedanyhow.loader import packets
from placedanyhow.processor import Processor


class Simulation:
    def __init__(self, core, plan, inputs, delays, turn):
        self.plan = plan
        self.delays = list(delays) or [1]
        self.now = 0
        self.log = []
        self.many = 0
        self.posted = 0
        self.last = {}
        # What is to arrive: (tick, 0, processor, number, ..) if it is local, (tick, 1, direction, number, ..) else.
        self.coming = []
        words = list(inputs)
        homes = {c: Home(kind, words.pop(0) if kind == "in" else []) for c, kind in enumerate(core[2])}
        self.processors = []
        for p in range(plan.processors):
            here = Homes({c: homes[c] for c in homes if plan.homes[c] == p}, self.log)
            self.processors.append(Processor(p, plan, here, turn))
        for p, image in enumerate(build_images(core, plan)):
            for goal, message in packets(p, image):
                self.post(0, goal, message)

    def post(self, here, goal, message):
        self.posted += 1
        if here == goal:
            self.coming.append((self.now + 1, 0, (here,), self.posted, here, goal, message))
            return
        hop = self.plan.hops[here][goal]
        arrival = max(self.last.get((here, hop), 0), self.now + self.delays[self.many % len(self.delays)])
        self.last[here, hop] = arrival
        self.coming.append((arrival, 1, (here, hop), self.posted, hop, goal, message))
        self.many += 1

    def quiet(self):
        return not self.coming and not any(processor.row for processor in self.processors)

    def advance(self):
        self.now += 1
        arriving = sorted([one for one in self.coming if one[0] == self.now], key=lambda one: one[:4])
        self.coming = [one for one in self.coming if one[0] != self.now]
        for *_, here, goal, message in arriving:
            if here == goal:
                self.processors[here].receive(message)
            else:
                self.post(here, goal, message)
        for phase in range(2):
            if phase == 1:
                for processor in self.processors:
                    processor.tick()
            for p, processor in enumerate(self.processors):
                for goal, message in processor.sent():
                    self.post(p, goal, message)

    def memories(self):
        return [processor.memory.words for processor in self.processors]
