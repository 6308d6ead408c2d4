"""Networks, and drawn plans and delays for cores."""

from placedanyhow.placement import make_plan
from placedanyhow.usage import threads_of


def row(many):
    return (many, [(k, k + 1) for k in range(many - 1)])


def ring(many):
    return (many, row(many)[1] + [(0, many - 1)])


def star(many):
    return (many, [(0, k) for k in range(1, many)])


def draw_network(rng):
    """A network of at most six processors, with a tree of links and others."""
    many = rng.randrange(1, 7)
    links = [(rng.randrange(k), k) for k in range(1, many)]
    others = [(a, b) for b in range(many) for a in range(b) if (a, b) not in links]
    return (many, links + [link for link in others if rng.random() < 0.2])


def draw_plan(rng, core):
    network = draw_network(rng)
    places = [rng.randrange(network[0]) for _ in threads_of(core)]
    homes = [rng.randrange(network[0]) if kind == "inner" else 0 for kind in core[2]]
    return make_plan(core, network, places, homes)


def draw_delays(rng):
    most = rng.choice((1, 2, 5, 40))
    return [rng.randrange(1, most + 1) for _ in range(rng.randrange(7))]
