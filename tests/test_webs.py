import copy
import itertools
import unittest

from parlourday.errors import BadWalk, BadWeb, TooMany
from parlourday.webs import difference, is_web, nodes_met, walk_apart, walk_end

from tests.plain_search import NO_WEBS, long_web, met, small_webs, walks, walks_up_to, wide_web, with_weight

ONE = (((5, 0),),)
# node 3 leads to others, and nothing leads to it
FORK = (((2, 1), (-1, 2)), ((0, 0), (4, 1)), ((7, 2),), ((1, 0),))


class IsWeb(unittest.TestCase):
    def test_right_ones(self):
        for web in [ONE, FORK, long_web(), wide_web(1), *small_webs(1, 20)]:
            self.assertIs(is_web(web), True)

    def test_each_bound(self):
        self.assertIs(is_web((((10 ** 6, 0),),)), True)
        self.assertIs(is_web((((-10 ** 6, 0),),)), True)
        self.assertIs(is_web((((0, 0),) * 12,)), True)
        self.assertIs(is_web((((0, 119),),) * 120), True)
        self.assertIs(is_web((((0, 1),), ((0, 0),))), True)

    def test_one_beyond_each_bound(self):
        self.assertIs(is_web((((10 ** 6 + 1, 0),),)), False)
        self.assertIs(is_web((((-10 ** 6 - 1, 0),),)), False)
        self.assertIs(is_web((((0, 0),) * 13,)), False)
        self.assertIs(is_web((((0, 0),),) * 121), False)
        self.assertIs(is_web((((0, 2),), ((0, 0),))), False)
        self.assertIs(is_web((((0, -1),), ((0, 0),))), False)
        self.assertIs(is_web(()), False)
        self.assertIs(is_web((((0, 0),), ())), False)

    def test_other_objects(self):
        for thing in NO_WEBS:
            with self.subTest(thing=str(thing)[:60]):
                self.assertIs(is_web(thing), False)

    def test_a_fault_in_the_last_place(self):
        self.assertIs(is_web(long_web()[:-1] + (((0, True),),)), False)
        self.assertIs(is_web(long_web()[:-1] + (((False, 0),),)), False)
        self.assertIs(is_web(long_web()[:-1] + ([(0, 0)],)), False)


class WalkEnd(unittest.TestCase):
    def test_ends_and_sums(self):
        self.assertEqual(walk_end(FORK, []), (0, 0))
        self.assertEqual(walk_end(FORK, [0]), (1, 2))
        self.assertEqual(walk_end(FORK, [0, 1, 1, 0, 1, 0]), (2, 16))
        self.assertEqual(walk_end(web=ONE, walk=[0] * 10000), (0, 50000))

    def test_all_walks_of_small_webs(self):
        for web in small_webs(2, 20):
            for indexes, end, total in walks(web, 4):
                self.assertEqual(walk_end(web, indexes), (end, total))

    def place(self, web, walk):
        with self.assertRaises(BadWalk) as caught:
            walk_end(web, walk)
        return caught.exception.place

    def test_the_place_of_the_first_entry_that_is_none(self):
        self.assertEqual(self.place(FORK, [2]), 0)
        self.assertEqual(self.place(FORK, [0, 1, 2, 9]), 2)
        self.assertEqual(self.place(FORK, [1, 0, 1]), 2)
        self.assertEqual(self.place(FORK, [0, -1]), 1)
        for thing in [True, False, None, "0", [0], (0,), 10 ** 50]:
            self.assertEqual(self.place(FORK, [0, 1, thing, 0]), 2)

    def test_walks_that_are_too_long(self):
        self.assertEqual(self.place(ONE, [0] * 10001), 10000)
        self.assertEqual(self.place(ONE, [0] * 10000 + [7]), 10000)
        self.assertEqual(self.place(ONE, [0] * 9999 + [7, 0]), 9999)
        self.assertEqual(self.place(ONE, [0] * 9999 + [7]), 9999)
        self.assertEqual(self.place(ONE, [1] * 20000), 0)

    def test_no_list(self):
        for thing in [None, True, 0, "", (), (0,), {}, {0: 0}, b"\x00"]:
            self.assertEqual(self.place(ONE, thing), -1)

    def test_a_bad_web_comes_first(self):
        for thing in NO_WEBS:
            with self.assertRaises(BadWeb):
                walk_end(thing, None)

    def test_the_walk_stays(self):
        walk = [0, 1, 0]
        walk_end(FORK, walk)
        self.assertEqual(walk, [0, 1, 0])


class NodesMet(unittest.TestCase):
    def test_nodes_that_are_met(self):
        self.assertEqual(nodes_met(FORK), [0, 1, 2])
        self.assertEqual(nodes_met(ONE), [0])
        self.assertEqual(nodes_met(web=long_web()), list(range(120)))
        self.assertEqual(nodes_met((((0, 2),), ((0, 1),), ((0, 0),))), [0, 2])
        for web in [wide_web(3), *small_webs(3, 60)]:
            self.assertEqual(nodes_met(web), met(web))

    def test_the_list_is_new(self):
        nodes_met(FORK).append(9)
        self.assertEqual(nodes_met(FORK), [0, 1, 2])

    def test_bad_webs(self):
        for thing in NO_WEBS:
            with self.assertRaises(BadWeb):
                nodes_met(thing)


def sums_of(web, length):
    return {tuple(indexes): total for indexes, _, total in walks_up_to(web, length)}


def plain_apart(web, other, length):
    """The first shortest list that tells apart, of at most so many indexes."""
    sums, others = sums_of(web, length), sums_of(other, length)
    apart = [walk for walk in sums.keys() | others.keys() if sums.get(walk) != others.get(walk)]
    return list(min(apart, key=lambda walk: (len(walk), walk))) if apart else None


class WalkApart(unittest.TestCase):
    def test_equal_walks(self):
        self.assertIsNone(walk_apart(FORK, FORK))
        self.assertIsNone(walk_apart(ONE, (((5, 1),), ((5, 0),))))
        self.assertIsNone(walk_apart(web=FORK, other=FORK[:3]))
        self.assertIsNone(walk_apart(wide_web(4), copy.deepcopy(wide_web(4))))

    def test_the_first_shortest_list(self):
        self.assertEqual(walk_apart(ONE, (((6, 0),),)), [0])
        self.assertEqual(walk_apart(ONE, (((5, 0), (5, 0)),)), [1])
        self.assertEqual(walk_apart((((5, 0), (5, 0)),), ONE), [1])
        # unlike weights at 1, and moves of just one web from 2 on
        self.assertEqual(walk_apart((((0, 0), (1, 0), (0, 0)),), (((0, 0), (2, 0)),)), [1])
        # both at the second beat: behind index 0 a later move, behind index 1 an earlier one
        web = (((0, 1), (0, 2)), ((0, 0), (1, 0)), ((1, 0),))
        other = (((0, 1), (0, 2)), ((0, 0), (2, 0)), ((2, 0),))
        self.assertEqual(walk_apart(web, other), [0, 1])
        # the shortest one, though a first index leads to a longer one
        other = (((0, 1), (0, 2)), ((0, 0), (1, 2)), ((2, 0),))
        self.assertEqual(walk_apart(web, other), [1, 0])

    def test_sums_that_come_to_the_same_again(self):
        self.assertEqual(walk_apart((((1, 1),), ((-1, 0),)), (((0, 0),),)), [0])

    def test_rings_of_unlike_length(self):
        web = long_web(11)
        self.assertIsNone(walk_apart(web, web + web[:1]))
        other = long_web(12)
        self.assertEqual(walk_apart(web, other), [0] * 12)

    def test_small_webs(self):
        webs = small_webs(5, 40, nodes=2, moves=2, weight=1)
        for web, other in itertools.product(webs, webs[:12]):
            self.assertEqual(walk_apart(web, other), plain_apart(web, other, 4))

    def test_small_webs_that_are_nearly_alike(self):
        told = set()
        for web in small_webs(7, 40, nodes=3, moves=2, weight=0):
            for node, moves in enumerate(web):
                for other in [with_weight(web, node, len(moves) - 1, 1), (*web[:node], moves * 2, *web[node + 1:])]:
                    found = walk_apart(web, other)
                    self.assertEqual(found, plain_apart(web, other, 6))
                    told.add(None if found is None else len(found))
        self.assertLessEqual({None, 1, 2, 3}, told)

    def test_errors(self):
        for thing in NO_WEBS:
            for web, other in [(thing, ONE), (ONE, thing), (thing, thing)]:
                with self.assertRaises(BadWeb):
                    walk_apart(web, other)

    def test_the_list_is_new(self):
        walk_apart(ONE, (((6, 0),),)).append(1)
        self.assertEqual(walk_apart(ONE, (((6, 0),),)), [0])


class Difference(unittest.TestCase):
    def test_weights(self):
        self.assertEqual(difference(ONE, (((7, 0),),)), (((-2, 0),),))
        self.assertEqual(difference(web=FORK, other=FORK), (((0, 1), (0, 2)), ((0, 0), (0, 1)), ((0, 2),)))

    def test_pairs_ascend(self):
        web = (((1, 1),), ((2, 0),))
        other = (((10, 2),), ((20, 0),), ((30, 1),))
        # met in the order (0, 0) (1, 2) (0, 1) (1, 0) (0, 2) (1, 1)
        self.assertEqual(difference(web, other), (
            ((-9, 5),), ((-19, 3),), ((-29, 4),), ((-8, 2),), ((-18, 0),), ((-28, 1),),
        ))

    def test_sums_are_the_difference(self):
        webs = [web for web in small_webs(6, 60) if all(len(node) == 2 for node in web)]
        self.assertGreater(len(webs), 3)
        for web, other in itertools.product(webs, webs):
            found = difference(web, other)
            self.assertIs(is_web(found), True)
            self.assertEqual(met(found), list(range(len(found))))
            for indexes, _, total in walks(found, 5):
                self.assertEqual(total, walk_end(web, indexes)[1] - walk_end(other, indexes)[1])

    def test_unlike_numbers_of_moves(self):
        two = (((0, 0), (0, 0)),)
        for web, other in [(ONE, two), (two, ONE), (FORK, FORK[:2] + (((7, 2), (0, 2)),))]:
            with self.assertRaises(BadWeb):
                difference(web, other)

    def test_unlike_numbers_where_nothing_leads(self):
        self.assertEqual(difference(FORK[:3] + (((1, 0), (1, 1)),), FORK), difference(FORK, FORK))

    def test_too_many_pairs(self):
        self.assertEqual(len(difference(long_web(10), long_web(12))), 60)
        self.assertEqual(len(difference(long_web(15), long_web(8))), 120)
        with self.assertRaises(TooMany):
            difference(long_web(11), long_web(12))
        with self.assertRaises(TooMany):
            difference(long_web(120), long_web(119))

    def test_too_great_weights(self):
        most = (((10 ** 6, 0),),)
        self.assertEqual(difference(most, (((0, 0),),)), most)
        for web, other in [(most, (((-1, 0),),)), ((((-1, 0),),), most)]:
            with self.assertRaises(TooMany):
                difference(web, other)

    def test_bad_webs_ahead_of_too_many(self):
        other = long_web(12)[:-1] + (((0, 0), (0, 0)),)
        with self.assertRaises(BadWeb):
            difference(long_web(11), other)

    def test_errors(self):
        for thing in NO_WEBS:
            for web, other in [(thing, ONE), (ONE, thing), (thing, thing)]:
                with self.assertRaises(BadWeb):
                    difference(web, other)


if __name__ == "__main__":
    unittest.main()
