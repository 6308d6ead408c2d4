"""Points 16.1 and 16.2: networks, distances and next hops."""

import itertools
import random
import unittest

from placedanyhow.errors import PlacedError, PlanError
from placedanyhow.graph import check_network, distances, next_hops
from tests.support import frozen, is_plain


def row(many):
    return [(k, k + 1) for k in range(many - 1)]


def ring(many):
    return row(many) + [(0, many - 1)]


def star(many):
    return [(0, k) for k in range(1, many)]


def full(many):
    return list(itertools.combinations(range(many), 2))


def refused(processors, links):
    """The reason of the PlanError, or what is returned."""
    before = frozen(links)
    try:
        return check_network(processors, links)
    except PlanError as e:
        return e.reason
    finally:
        assert frozen(links) == before


class CheckTest(unittest.TestCase):
    def keeps(self, processors, links):
        self.assertIsNone(refused(processors, links), (processors, links))

    def breaks(self, reason, processors, links):
        self.assertEqual(refused(processors, links), reason, (processors, links))

    def test_it_is_an_error_of_the_program(self):
        self.assertTrue(issubclass(PlanError, PlacedError))
        self.assertRaises(PlanError, check_network, 0, [])

    def test_processors(self):
        for many in range(1, 7):
            self.keeps(many, row(many))
        for many in (0, -1, -6, 7, 8, 65535):
            self.breaks("processors", many, [])
            self.breaks("processors", many, row(many) if many < 9 else [(0, 1)])

    def test_networks(self):
        self.keeps(1, [])
        for many in range(2, 7):
            for links in (row(many), star(many), full(many), [(k, many - 1) for k in range(many - 1)]):
                self.keeps(many, links)
                self.keeps(many, links[::-1])
        for many in range(3, 7):
            self.keeps(many, ring(many))

    def test_a_link_of_a_processor_to_itself(self):
        for k in range(3):
            self.breaks("links", 3, row(3) + [(k, k)])
        self.breaks("links", 1, [(0, 0)])

    def test_a_link_the_wrong_way_round(self):
        self.breaks("links", 2, [(1, 0)])
        self.breaks("links", 3, [(0, 1), (2, 1)])
        self.breaks("links", 3, [(0, 1), (1, 2), (2, 0)])

    def test_a_negative_processor(self):
        self.breaks("links", 2, [(0, 1), (-1, 0)])
        self.breaks("links", 2, [(-1, 1), (0, 1)])
        self.breaks("links", 2, [(-2, -1), (0, 1)])

    def test_a_processor_that_does_not_exist(self):
        self.breaks("links", 2, [(0, 1), (1, 2)])
        self.breaks("links", 2, [(0, 2), (0, 1)])
        self.breaks("links", 6, row(6) + [(5, 6)])
        self.breaks("links", 6, row(6) + [(65534, 65535)])
        self.breaks("links", 1, [(0, 1)])
        self.breaks("links", 3, row(3) + [(3, 4)])

    def test_a_duplicate(self):
        self.breaks("links", 2, [(0, 1), (0, 1)])
        self.breaks("links", 3, [(0, 1), (1, 2), (0, 1)])
        self.breaks("links", 3, [(1, 2), (0, 1), (1, 2)])
        self.keeps(3, [(0, 1), (0, 2), (1, 2)])

    def test_a_processor_that_is_not_connected(self):
        self.breaks("parts", 2, [])
        self.breaks("parts", 3, [(0, 1)])
        self.breaks("parts", 3, [(0, 2)])
        self.breaks("parts", 3, [(1, 2)])
        self.breaks("parts", 6, row(5))

    def test_a_part_that_is_connected_with_itself_only(self):
        self.breaks("parts", 4, [(0, 1), (2, 3)])
        self.breaks("parts", 4, [(0, 2), (1, 3)])
        self.breaks("parts", 6, ring(3) + [(3, 4), (4, 5), (3, 5)])
        self.breaks("parts", 5, [(1, 2), (2, 3), (3, 4), (1, 4)])

    def test_the_order(self):
        self.breaks("processors", 7, [(1, 0)])
        self.breaks("processors", 0, [(0, 0)])
        self.breaks("processors", -1, [])
        self.breaks("links", 4, [(0, 1), (1, 0)])
        self.breaks("links", 4, [(3, 2)])
        self.breaks("links", 4, [(2, 3), (2, 3)])
        self.breaks("links", 2, [(0, 5)])


class DistancesTest(unittest.TestCase):
    def check(self, processors, links, goal, expected):
        before = frozen(links)
        found = distances(processors, links, goal)
        self.assertEqual(frozen(found), frozen(expected))
        self.assertEqual(frozen(links), before)

    def test_the_example(self):
        self.check(3, [(0, 2)], 0, [0, -1, 1])

    def test_one_processor(self):
        self.check(1, [], 0, [0])

    def test_rows(self):
        for many in range(1, 7):
            for goal in range(many):
                self.check(many, row(many), goal, [abs(k - goal) for k in range(many)])
                self.check(many, row(many)[::-1], goal, [abs(k - goal) for k in range(many)])

    def test_rings(self):
        for many in range(3, 7):
            for goal in range(many):
                expected = [min(abs(k - goal), many - abs(k - goal)) for k in range(many)]
                self.check(many, ring(many), goal, expected)

    def test_stars(self):
        self.check(5, star(5), 0, [0, 1, 1, 1, 1])
        self.check(5, star(5), 3, [1, 2, 2, 0, 2])

    def test_full_networks(self):
        for goal in range(6):
            self.check(6, full(6), goal, [int(k != goal) for k in range(6)])

    def test_without_a_way(self):
        self.check(3, [(0, 2)], 1, [-1, 0, -1])
        self.check(3, [(0, 2)], 2, [1, -1, 0])
        self.check(4, [], 2, [-1, -1, 0, -1])
        self.check(6, [(0, 1), (2, 3), (3, 4)], 4, [-1, -1, 2, 1, 0, -1])
        self.check(6, [(0, 1), (2, 3), (3, 4)], 0, [0, 1, -1, -1, -1, -1])

    def test_a_short_way_beside_a_long_one(self):
        self.check(6, row(6) + [(0, 4)], 5, [2, 3, 3, 2, 1, 0])


class HopsTest(unittest.TestCase):
    def check(self, processors, links, expected):
        before = frozen(links)
        found = next_hops(processors, links)
        self.assertEqual(frozen(found), frozen(expected))
        self.assertTrue(is_plain(found))
        self.assertEqual(frozen(next_hops(processors, links[::-1])), frozen(expected))
        self.assertEqual(frozen(links), before)

    def test_the_example(self):
        self.check(4, [(0, 1), (0, 2), (1, 3), (2, 3)], [[0, 1, 2, 1], [0, 1, 0, 3], [0, 0, 2, 3], [1, 1, 2, 3]])

    def test_one_processor(self):
        self.check(1, [], [[0]])

    def test_rows(self):
        for many in range(1, 7):
            sign = lambda n: (n > 0) - (n < 0)
            self.check(many, row(many), [[p + sign(goal - p) for goal in range(many)] for p in range(many)])

    def test_rings(self):
        self.check(3, ring(3), [[0, 1, 2], [0, 1, 2], [0, 1, 2]])
        self.check(5, ring(5), [
            [0, 1, 1, 4, 4], [0, 1, 2, 2, 0], [1, 1, 2, 3, 3], [4, 2, 2, 3, 4], [0, 0, 3, 3, 4],
        ])

    def test_rings_with_two_ways(self):
        self.check(4, ring(4), [[0, 1, 1, 3], [0, 1, 2, 0], [1, 1, 2, 3], [0, 0, 2, 3]])
        self.check(6, ring(6), [
            [0, 1, 1, 1, 5, 5], [0, 1, 2, 2, 0, 0], [1, 1, 2, 3, 3, 1],
            [2, 2, 2, 3, 4, 4], [5, 3, 3, 3, 4, 5], [0, 0, 0, 4, 4, 5],
        ])

    def test_stars(self):
        self.check(4, star(4), [[0, 1, 2, 3], [0, 1, 0, 0], [0, 0, 2, 0], [0, 0, 0, 3]])
        self.check(4, [(0, 3), (1, 3), (2, 3)], [[0, 3, 3, 3], [3, 1, 3, 3], [3, 3, 2, 3], [0, 1, 2, 3]])

    def test_full_networks(self):
        for many in range(2, 7):
            self.check(many, full(many), [list(range(many))] * many)

    def test_the_lowest_of_several_nearest_neighbours(self):
        between = [(0, 1), (0, 2), (0, 3), (0, 4), (1, 5), (2, 5), (3, 5), (4, 5)]
        found = next_hops(6, between[::-1])
        self.assertEqual((found[0][5], found[5][0]), (1, 1))
        found = next_hops(6, [link for link in between if 1 not in link] + [(1, 5)])
        self.assertEqual((found[0][5], found[5][0], found[0][1], found[1][0]), (2, 2, 2, 5))

    def test_a_lower_neighbour_that_is_not_nearest(self):
        found = next_hops(5, [(0, 1), (0, 3), (1, 2), (2, 4), (3, 4)])
        self.assertEqual((found[0][4], found[4][0], found[3][2], found[1][4]), (3, 3, 4, 2))

    def test_all_networks_of_four(self):
        many = 0
        for size in range(7):
            for links in itertools.combinations(full(4), size):
                if refused(4, list(links)) is None:
                    many += 1
                    self.check_words(4, list(links))
        self.assertEqual(many, 38)

    def test_drawn_networks_of_six(self):
        rng = random.Random(81)
        for _ in range(60):
            links = [link for link in full(6) if rng.random() < 0.5]
            rng.shuffle(links)
            if refused(6, links) is None:
                self.check_words(6, links)

    def check_words(self, processors, links):
        """The next hops as the words of point 16.2 say them."""
        far = self.lengths(processors, links)
        for p, hops in enumerate(next_hops(processors, links)):
            self.assertEqual([far[p][goal] for goal in range(processors)], distances(processors, links, p))
            for goal, hop in enumerate(hops):
                near = [q for q in range(processors) if far[p][q] == 1]
                least = min([far[q][goal] for q in near])
                expected = p if p == goal else min(q for q in near if far[q][goal] == least)
                self.assertEqual(hop, expected)

    def lengths(self, processors, links):
        """The lengths of the shortest ways, by all processors that stand between."""
        both = links + [(b, a) for a, b in links]
        found = [[0 if p == q else 1 if (p, q) in both else 99 for q in range(processors)] for p in range(processors)]
        for m, p, q in itertools.product(range(processors), repeat=3):
            found[p][q] = min(found[p][q], found[p][m] + found[m][q])
        return found

    def test_the_lists_may_change_later(self):
        links = [(0, 1), (1, 2)]
        found = next_hops(3, links)
        links.clear()
        self.assertEqual(found, [[0, 1, 1], [0, 1, 2], [1, 1, 2]])
        found[0][2] = 9
        self.assertEqual(found[1:], [[0, 1, 2], [1, 1, 2]])
        self.assertEqual(next_hops(3, [(0, 1), (1, 2)])[0], [0, 1, 1])


if __name__ == "__main__":
    unittest.main()
