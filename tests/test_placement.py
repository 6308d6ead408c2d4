"""Point 17.1: plans."""

import unittest

from placedanyhow.errors import PlanError
from placedanyhow.graph import next_hops
from placedanyhow.placement import Plan, make_plan, spread
from tests.parts import SKIP, par, seq
from tests.support import frozen, is_plain

# Four threads and five channels.
CORE = ("core", 2, ["in", "inner", "out", "inner", "in"], seq(par((1, par((2, SKIP))), (3, SKIP))))
NETWORK = (3, [(0, 1), (1, 2)])
PLACES = [0, 2, 1, 2]
HOMES = [0, 2, 0, 1, 0]


def refused(core, network, places, homes):
    """The reason of the PlanError, or None."""
    before = frozen((core, network, places, homes))
    try:
        make_plan(core, network, places, homes)
    except PlanError as e:
        return e.reason
    finally:
        assert frozen((core, network, places, homes)) == before


class PlanTest(unittest.TestCase):
    def keeps(self, core=CORE, network=NETWORK, places=PLACES, homes=HOMES):
        self.assertIsNone(refused(core, network, places, homes))

    def breaks(self, reason, core=CORE, network=NETWORK, places=PLACES, homes=HOMES):
        self.assertEqual(refused(core, network, places, homes), reason)

    def check_fields(self, core, network, places, homes):
        plan = make_plan(core, network, places, homes)
        self.assertIs(type(plan), Plan)
        fields = (plan.processors, plan.links, plan.threads, plan.homes, plan.hops)
        self.assertEqual(frozen(fields), frozen((*network, places, homes, next_hops(*network))))
        self.assertTrue(is_plain(fields))

    def test_the_fields(self):
        self.check_fields(CORE, NETWORK, PLACES, HOMES)
        self.check_fields(CORE, (1, []), [0] * 4, [0] * 5)
        self.check_fields(CORE, (6, [(k, 5) for k in range(5)]), [5, 4, 3, 2], [0, 5, 0, 1, 0])
        self.check_fields(("core", 0, [], SKIP), (2, [(0, 1)]), [1], [])
        self.check_fields(("core", 0, ["inner"], SKIP), (2, [(0, 1)]), [0], [1])

    def test_the_example(self):
        plan = make_plan(("core", 0, ["inner"], SKIP), (2, [(0, 1)]), [1], [0])
        self.assertEqual(plan.hops, [[0, 1], [0, 1]])
        self.breaks("homes", ("core", 0, ["out"], SKIP), (2, [(0, 1)]), [1], [1])
        self.assertEqual(spread(5, 3), [0, 1, 2, 0, 1])

    def test_the_errors_of_the_network(self):
        for network, reason in (
            ((0, []), "processors"), ((7, [(k, k + 1) for k in range(6)]), "processors"), ((-1, []), "processors"),
            ((3, [(0, 1), (2, 1)]), "links"), ((3, [(0, 1), (1, 2), (0, 1)]), "links"), ((3, [(0, 1), (1, 3)]), "links"),
            ((3, [(0, 1)]), "parts"), ((3, []), "parts"),
        ):
            self.breaks(reason, network=network)
            self.breaks(reason, network=network, places=[])
            self.breaks(reason, network=network, homes=[9, 9])
            self.breaks(reason, network=network, places=[9] * 4, homes=[1] * 5)

    def test_lengths(self):
        for places in ([], PLACES[:3], PLACES + [0], [0] * 9):
            self.breaks("places", places=places)
        for homes in ([], HOMES[:4], HOMES + [0], [0] * 9):
            self.breaks("places", homes=homes)
        self.keeps(places=[0, 0, 0, 0], homes=[0] * 5)

    def test_processors_that_do_not_exist(self):
        for wrong in (3, 4, 65535, -1, -3):
            for k in range(4):
                self.breaks("places", places=PLACES[:k] + [wrong] + PLACES[k + 1:])
            for k in range(5):
                self.breaks("places", homes=HOMES[:k] + [wrong] + HOMES[k + 1:])
        self.keeps(places=[2, 2, 2, 2], homes=[0, 2, 0, 2, 0])
        self.breaks("places", network=(1, []), places=[0, 0, 0, 1], homes=[0] * 5)
        self.keeps(network=(1, []), places=[0] * 4, homes=[0] * 5)

    def test_homes(self):
        for k in (0, 2, 4):
            for home in (1, 2):
                self.breaks("homes", homes=HOMES[:k] + [home] + HOMES[k + 1:])
        for k in (1, 3):
            for home in (0, 1, 2):
                self.keeps(homes=HOMES[:k] + [home] + HOMES[k + 1:])

    def test_places_come_before_homes(self):
        for places in ([], [0, 0, 0, 3], [0, 0, 0, -1]):
            self.breaks("places", places=places, homes=[1] * 5)
        self.breaks("places", homes=[1, 0, 0, 0, 3])
        self.breaks("places", homes=[1, 0, 0, -1, 0])
        self.breaks("places", homes=[1, 0, 0, 0])
        self.breaks("homes", homes=[1] * 5)

    def test_no_channels(self):
        core = ("core", 0, [], SKIP)
        self.keeps(core, (1, []), [0], [])
        self.breaks("places", core, (1, []), [0], [0])
        self.breaks("places", core, (1, []), [], [])
        self.breaks("places", core, (1, []), [0, 0], [])

    def test_the_lists_may_change_later(self):
        links, places, homes = [(0, 1), (1, 2)], list(PLACES), list(HOMES)
        plan = make_plan(CORE, (3, links), places, homes)
        kept = frozen((plan.processors, plan.links, plan.threads, plan.homes, plan.hops))
        links.clear()
        places.append(7)
        homes[0] = 2
        self.assertEqual(frozen((plan.processors, plan.links, plan.threads, plan.homes, plan.hops)), kept)
        other = make_plan(CORE, NETWORK, PLACES, HOMES)
        plan.links.clear()
        plan.threads.clear()
        plan.homes.clear()
        plan.hops[0].clear()
        self.assertEqual(frozen((other.processors, other.links, other.threads, other.homes, other.hops)), kept)
        self.assertEqual((NETWORK[1], PLACES, HOMES), ([(0, 1), (1, 2)], [0, 2, 1, 2], [0, 2, 0, 1, 0]))


class SpreadTest(unittest.TestCase):
    def test_spread(self):
        for many, processors, expected in (
            (0, 1, []), (0, 6, []), (1, 1, [0]), (4, 1, [0, 0, 0, 0]), (2, 3, [0, 1]), (3, 3, [0, 1, 2]),
            (4, 3, [0, 1, 2, 0]), (7, 3, [0, 1, 2, 0, 1, 2, 0]), (12, 6, [0, 1, 2, 3, 4, 5] * 2), (1, 6, [0]),
        ):
            self.assertEqual(frozen(spread(many, processors)), frozen(expected))

    def test_the_list_is_the_callers(self):
        spread(3, 2).clear()
        self.assertEqual(spread(3, 2), [0, 1, 0])


if __name__ == "__main__":
    unittest.main()
