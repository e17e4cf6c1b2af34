import unittest

from parlourday.errors import BadFraction, BadWeb
from parlourday.rings import mean_least, mean_most, means_from, ring_least, ring_most, ring_shows
from parlourday.webs import nodes_met, walk_end

from tests.plain_search import NO_FRACTIONS, NO_WEBS, long_web, means, met, pair, small_webs, wide_web

# 0 leads to a ring of mean 5 / 2 and one of mean 1; node 4, with a ring of mean 9, is not met
TREE = (((0, 1), (-8, 3)), ((2, 2),), ((3, 1),), ((1, 3),), ((9, 4), (0, 0)))
WEBS = [TREE, long_web(), *small_webs(11, 150), *small_webs(12, 60, nodes=6, moves=2, weight=10)]


class Means(unittest.TestCase):
    def test_by_hand(self):
        self.assertEqual(mean_most(TREE), (5, 2))
        self.assertEqual(mean_least(TREE), (1, 1))
        self.assertEqual(mean_most(long_web()), (1, 120))
        self.assertEqual(mean_least(web=long_web()), (1, 120))
        self.assertEqual(mean_most(web=(((0, 0),),)), (0, 1))
        self.assertEqual(mean_most((((-6, 1),), ((2, 0),))), (-2, 1))
        self.assertEqual(mean_most((((-3, 1),), ((0, 0),))), (-3, 2))
        self.assertEqual(mean_most((((10 ** 6, 0), (-10 ** 6, 0)),)), (10 ** 6, 1))
        self.assertEqual(mean_least((((10 ** 6, 0), (-10 ** 6, 0)),)), (-10 ** 6, 1))

    def test_all_rings_of_small_webs(self):
        for web in WEBS:
            self.assertEqual(mean_most(web), pair(max(means(web))))
            self.assertEqual(mean_least(web), pair(min(means(web))))

    def test_the_kind_of_value(self):
        for value in [mean_most(TREE), mean_least(TREE)]:
            self.assertIs(value.__class__, tuple)
            self.assertEqual([part.__class__ for part in value], [int, int])

    def test_errors(self):
        for thing in NO_WEBS:
            for asked in [mean_most, mean_least, ring_most, ring_least, means_from]:
                with self.assertRaises(BadWeb):
                    asked(thing)


class Rings(unittest.TestCase):
    def check(self, web, ring, mean):
        self.assertIs(ring.__class__, tuple)
        ahead, around = ring
        self.assertIs(ahead.__class__, list)
        self.assertIs(around.__class__, list)
        self.assertLessEqual(len(ahead), 120)
        self.assertTrue(1 <= len(around) <= 120)
        start, total = walk_end(web, ahead)
        end, further = walk_end(web, ahead + around)
        self.assertEqual(start, end)
        self.assertEqual((further - total) * mean[1], mean[0] * len(around))
        self.assertIs(ring_shows(web, mean, ring), True)

    def test_they_have_the_means(self):
        for web in [*WEBS, wide_web(13), wide_web(14, moves=2), wide_web(15, weight=1)]:
            self.check(web, ring_most(web), mean_most(web))
            self.check(web, ring_least(web), mean_least(web))

    def test_a_ring_far_from_node_0(self):
        path = tuple(((1, node + 1), (0, 0)) for node in range(119))
        web = path + (((2, 119),),)
        self.check(web, ring_most(web=web), (2, 1))
        self.check(web, ring_least(web=web), (0, 1))

    def test_they_are_new(self):
        ring = ring_most(TREE)
        ring[0].append(0)
        ring[1].clear()
        self.check(TREE, ring_most(TREE), (5, 2))


class RingShows(unittest.TestCase):
    def test_rings(self):
        self.assertIs(ring_shows(TREE, (5, 2), ([0], [0, 0])), True)
        self.assertIs(ring_shows(TREE, (5, 2), ([0, 0], [0, 0])), True)
        self.assertIs(ring_shows(TREE, (5, 2), ([0], [0, 0] * 30)), True)
        self.assertIs(ring_shows(web=TREE, fraction=(1, 1), thing=([1], [0])), True)

    def test_fractions_not_in_lowest_terms(self):
        self.assertIs(ring_shows(TREE, (10, 4), ([0], [0, 0])), True)
        self.assertIs(ring_shows(TREE, (5 * 10 ** 50, 2 * 10 ** 50), ([0], [0, 0])), True)
        self.assertIs(ring_shows((((0, 0),),), (0, 7), ([], [0])), True)

    def test_another_mean(self):
        for fraction in [(5, 1), (1, 2), (-5, 2), (2, 5), (0, 1), (5 * 10 ** 50 + 1, 2 * 10 ** 50)]:
            self.assertIs(ring_shows(TREE, fraction, ([0], [0, 0])), False)

    def test_what_is_no_ring(self):
        for thing in [
            None, True, 0, "ring", [], (), {}, ([0],), ([0], [0, 0], []), [[0], [0, 0]], ((0,), [0, 0]),
            ([0], (0, 0)), ([0], []), ([0], [0]), ([0], [0, 0, 0]), ([], [0, 0]), ([], []), ([0], [0, 1]),
            ([1], [0, 0]), ([2], [0, 0]), ([0], [0, -1]), ([0], [False, 0]), ([False], [0, 0]), ([0], [0, None]),
            ([0], ["0", 0]), ([[0]], [0, 0]), ([-1], [0, 0]), ([0], None), (None, [0, 0]), ([0], [0, 0, 7]),
            ([0, 7], [0, 0]),
        ]:
            with self.subTest(thing=str(thing)):
                self.assertIs(ring_shows(TREE, (5, 2), thing), False)

    def test_the_sum_alone_makes_no_ring(self):
        self.assertIs(ring_shows((((3, 1),), ((3, 0),)), (3, 1), ([], [0])), False)
        self.assertIs(ring_shows((((3, 1),), ((3, 0),)), (3, 1), ([0], [0])), False)
        self.assertIs(ring_shows((((6, 0),),), (3, 1), ([], [0, 7])), False)
        self.assertIs(ring_shows((((0, 0),),), (0, 1), ([], [0] * 10001)), False)

    def test_the_empty_round_has_no_mean(self):
        self.assertIs(ring_shows((((0, 0),),), (0, 1), ([0], [])), False)

    def test_lengths(self):
        web = (((3, 0),),)
        self.assertIs(ring_shows(web, (3, 1), ([0] * 10000, [0] * 10000)), True)
        self.assertIs(ring_shows(web, (3, 1), ([0] * 10001, [0])), False)
        self.assertIs(ring_shows(web, (3, 1), ([], [0] * 10001)), False)

    def test_the_ring_stays(self):
        ring = ([0], [0, 0])
        ring_shows(TREE, (5, 2), ring)
        self.assertEqual(ring, ([0], [0, 0]))

    def test_errors(self):
        for thing in NO_WEBS:
            with self.assertRaises(BadWeb):
                ring_shows(thing, None, None)
        for thing in NO_FRACTIONS:
            with self.subTest(thing=str(thing)), self.assertRaises(BadFraction):
                ring_shows(TREE, thing, None)


class MeansFrom(unittest.TestCase):
    def test_by_hand(self):
        self.assertEqual(means_from(TREE), ((5, 2), (5, 2), (5, 2), (1, 1), None))
        self.assertEqual(means_from(web=long_web()), ((1, 120),) * 120)

    def test_all_rings_of_small_webs(self):
        for web in WEBS:
            found = means_from(web)
            nodes = met(web)
            self.assertEqual(nodes, nodes_met(web))
            for node in range(len(web)):
                self.assertEqual(found[node], pair(max(means(web, node))) if node in nodes else None)
            self.assertEqual(len(found), len(web))
            self.assertEqual(found[0], mean_most(web))

    def test_great_webs(self):
        found = means_from(wide_web(16))
        self.assertEqual(found, (mean_most(wide_web(16)),) * 120)
        # a path, at each node of which a ring of its own can be gone round, the best ones first
        web = tuple(((120 - node, node), (0, min(node + 1, 119))) for node in range(120))
        self.assertEqual(means_from(web), tuple((120 - node, 1) for node in range(120)))


if __name__ == "__main__":
    unittest.main()
