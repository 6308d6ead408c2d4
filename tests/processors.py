"""Processors with images that are written by hand."""

from placedanyhow.coding import encode
from placedanyhow.homes import Home, Homes
from placedanyhow.loader import packets
from placedanyhow.placement import make_plan
from placedanyhow.processor import Processor
from tests.parts import SKIP, par

# Seven threads on four processors, and the channels 0 ("in"), 1 ("out") and 2 to 5 ("inner").
PLACES = [1, 1, 1, 1, 0, 2, 3]
KINDS = ["in", "out", "inner", "inner", "inner", "inner"]
HOMES = [0, 0, 1, 1, 2, 3]
CORE = ("core", 0, KINDS, par(*[(t, SKIP) for t in range(1, len(PLACES))]))
NETWORK = (4, [(0, 1), (1, 2), (1, 3)])


def image_of(threads):
    """The image of a dict from numbers to tuples (parent, places, takes, gives, code)."""
    words = [len(threads)]
    for t in sorted(threads):
        parent, places, takes, gives, code = threads[t]
        instructions = sum([encode(one) for one in code], [])
        words += [t, 0 if parent is None else parent + 1, places, len(takes), *takes, len(gives), *gives]
        words += [len(instructions), *instructions]
    return words


def thread(code, takes=(), gives=(), places=None, parent=0):
    """A thread for `image_of` with this code, by default without places behind its takes."""
    return (parent, len(takes) if places is None else places, list(takes), list(gives), list(code))


def new_plan(places=PLACES, homes=HOMES):
    return make_plan(CORE, NETWORK, list(places), list(homes))


def new_processor(at=1, turn=4, homes=None, log=None):
    """A processor that is not loaded yet; it has the homes of the dict."""
    return Processor(at, new_plan(), Homes(homes or {}, [] if log is None else log), turn)


def load(processor, threads):
    for _, message in packets(0, image_of(threads)):
        processor.receive(message)


def running(threads, at=1, turn=4, homes=None, log=None):
    """A processor that is loaded with threads, of which those other than 0 are not started."""
    processor = new_processor(at, turn, homes, log)
    load(processor, threads)
    return processor


def inner_homes():
    return {2: Home("inner", []), 3: Home("inner", [])}


def ticks(processor, many):
    for _ in range(many):
        processor.tick()
