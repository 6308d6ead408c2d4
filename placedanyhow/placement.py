"""Plans: which processors have the threads and the homes of the channels."""

from placedanyhow.errors import PlanError
from placedanyhow.graph import check_network, next_hops
from placedanyhow.usage import threads_of


class Plan:
    """A network, and the processors of the threads and of the homes of the channels.

    It keeps copies: the lists that are passed may be changed later.
    """

    def __init__(self, network, places, homes):
        processors, links = network
        self.processors = processors
        self.links = list(links)
        self.threads = list(places)
        self.homes = list(homes)
        self.hops = next_hops(processors, links)


def make_plan(core, network, places, homes):
    """The plan for the threads and channels of a core. Raises PlanError."""
    processors, links = network
    channels = core[2]
    check_network(processors, links)
    check_places(processors, places, len(threads_of(core)))
    check_places(processors, homes, len(channels))
    for kind, home in zip(channels, homes):
        if kind != "inner" and home != 0:
            raise PlanError("homes")
    return Plan(network, places, homes)


def check_places(processors, places, many):
    """Raises PlanError if this is not a list of so many processors."""
    if len(places) != many:
        raise PlanError("places")
    for p in places:
        if p < 0 or p >= processors:
            raise PlanError("places")


def spread(many, processors):
    """The list of the integers from 0 to many - 1, each modulo the number of processors."""
    return [k % processors for k in range(many)]
