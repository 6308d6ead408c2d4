"""Networks: processors and links between them."""

from placedanyhow.errors import PlanError

MOST_PROCESSORS = 6


def check_network(processors, links):
    """Raises PlanError with "processors", "links" or "parts" if this is not a network."""
    if processors < 1 or processors > MOST_PROCESSORS:
        raise PlanError("processors")
    for index, (a, b) in enumerate(links):
        if a < 0 or a >= b or b >= processors or (a, b) in links[:index]:
            raise PlanError("links")
    if -1 in distances(processors, links, 0):
        raise PlanError("parts")


def neighbours(processors, links):
    """The list of the lists of the neighbours of each processor."""
    found = [[] for _ in range(processors)]
    for a, b in links:
        found[a].append(b)
        found[b].append(a)
    return found


def distances(processors, links, goal):
    """The list of the numbers of links from each processor to the goal, -1 if there is no way."""
    near = neighbours(processors, links)
    found = [-1] * processors
    found[goal] = 0
    reached = [goal]
    while reached:
        p = reached.pop(0)
        for other in near[p]:
            if found[other] < 0:
                found[other] = found[p] + 1
                reached.append(other)
    return found


def next_hops(processors, links):
    """The list with, for each processor of a network, the list of its next hops to all."""
    near = neighbours(processors, links)
    ways = [distances(processors, links, goal) for goal in range(processors)]
    return [[next_hop(near, ways, p, goal) for goal in range(processors)] for p in range(processors)]


def next_hop(near, ways, p, goal):
    if p == goal:
        return p
    return min([(ways[goal][other], other) for other in near[p]])[1]
