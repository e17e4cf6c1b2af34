import itertools
import unittest
from fractions import Fraction

from parlourday.errors import BadCount, BadFraction, BadMove, BadWeb
from parlourday.numbers import (
    bear_numbers, bears, cap_numbers, caps, numbers_for, room_of, sum_most, sum_walk, sums_after, tight_moves,
)
from parlourday.rings import mean_least, mean_most
from parlourday.webs import walk_end

from tests.plain_search import (
    NO_COUNTS, NO_FRACTIONS, NO_WEBS, long_web, mean_of, means, met, pair, simple_rings, small_webs, walks,
    walks_up_to, wide_web, with_weight,
)

# 0 leads to a ring of mean 5 / 2 and one of mean 1; node 4, with a ring of mean 9, is not met
TREE = (((0, 1), (-8, 3)), ((2, 2),), ((3, 1),), ((1, 3),), ((9, 4), (0, 0)))
WEBS = [TREE, *small_webs(21, 100)]
FRACTIONS = [(0, 1), (1, 1), (-1, 2), (3, 2), (6, 4), (-3, 1), (0, 5), (10 ** 30, 3 * 10 ** 29)]


def gains(web, fraction, length, start):
    """below * sum - above * moves, for all walks of at most so many moves."""
    above, below = fraction
    return [below * total - above * len(indexes) for indexes, _, total in walks_up_to(web, length, start)]


class Caps(unittest.TestCase):
    def test_by_hand(self):
        web = (((3, 1),), ((1, 0),))
        self.assertIs(caps(web, (2, 1), (1, 0)), True)
        self.assertIs(caps(web, (2, 1), (-6, -7)), True)
        self.assertIs(caps(web, (2, 1), (0, 0)), False)
        self.assertIs(caps(web, (2, 1), (2, 0)), False)
        self.assertIs(caps(web=web, fraction=(3, 1), thing=(0, 0)), True)
        self.assertIs(bears(web, (2, 1), (1, 0)), True)
        self.assertIs(bears(web, (2, 1), (0, 0)), False)
        self.assertIs(bears(web=web, fraction=(1, 1), thing=(0, 0)), True)

    def test_fractions_as_they_are_passed(self):
        web = (((3, 1),), ((1, 0),))
        self.assertIs(caps(web, (4, 2), (2, 0)), True)
        self.assertIs(caps(web, (4, 2), (1, 0)), False)
        self.assertIs(bears(web, (4, 2), (2, 0)), True)
        self.assertIs(bears(web, (4, 2), (1, 0)), False)

    def test_nodes_that_are_not_met_are_free(self):
        self.assertIs(caps(TREE, (5, 2), (1, 1, 2, 0, 10 ** 20)), caps(TREE, (5, 2), (1, 1, 2, 0, -10 ** 20)))
        self.assertIs(caps(TREE, (5, 2), cap_numbers(TREE)[:4] + (-99,)), True)
        self.assertIs(bears(TREE, (1, 1), bear_numbers(TREE)[:4] + (99,)), True)

    def test_what_is_no_numbers(self):
        for thing in [None, 0, True, "", (), [0], (0, 0), (None,), (True,), (False,), ("0",), ((0,),), {0: 0}]:
            with self.subTest(thing=str(thing)):
                self.assertIs(caps((((0, 0),),), (0, 1), thing), False)
                self.assertIs(bears((((0, 0),),), (0, 1), thing), False)
        self.assertIs(caps((((0, 0),),), (0, 1), (0,)), True)
        self.assertIs(bears((((0, 0),),), (0, 1), (0,)), True)

    def test_all_numbers_of_small_webs(self):
        for web, (above, below) in itertools.product(small_webs(22, 12, nodes=3, moves=2, weight=1), [(0, 1), (1, 2)]):
            moves = [(node, weight, target) for node in met(web) for weight, target in web[node]]
            for numbers in itertools.product(range(-2, 3), repeat=len(web)):
                steps = [below * weight - above + numbers[target] - numbers[node] for node, weight, target in moves]
                self.assertIs(caps(web, (above, below), numbers), max(steps) <= 0)
                self.assertIs(bears(web, (above, below), numbers), min(steps) >= 0)

    def test_errors(self):
        for asked in [caps, bears]:
            for thing in NO_WEBS:
                with self.assertRaises(BadWeb):
                    asked(thing, None, None)
            for thing in NO_FRACTIONS:
                with self.subTest(thing=str(thing)), self.assertRaises(BadFraction):
                    asked(TREE, thing, None)


class NumbersFor(unittest.TestCase):
    def test_by_hand(self):
        web = (((3, 1),), ((1, 0),), ((9, 2),))
        self.assertEqual(numbers_for(web, (2, 1)), (1, 0, 0))
        self.assertEqual(numbers_for(web, (6, 3)), (3, 0, 0))
        self.assertEqual(numbers_for(web, (3, 1)), (0, 0, 0))
        self.assertEqual(numbers_for(web, (2, 1), least=True), (0, -1, 0))
        self.assertEqual(numbers_for(web=web, fraction=(2, 1), least=False), (1, 0, 0))
        self.assertIsNone(numbers_for(web, (1, 1)))
        self.assertIsNone(numbers_for(web, (3, 1), least=True))
        with self.assertRaises(TypeError):
            numbers_for(web, (2, 1), True)

    def test_they_are_the_sums_of_walks(self):
        for web, fraction in itertools.product(WEBS, FRACTIONS):
            mean = Fraction(*fraction)
            greatest, least = numbers_for(web, fraction), numbers_for(web, fraction, least=True)
            self.assertEqual(greatest is None, max(means(web)) > mean)
            self.assertEqual(least is None, min(means(web)) < mean)
            for node in range(len(web)):
                found = gains(web, fraction, len(met(web)), node) if node in met(web) else [0]
                if greatest is not None:
                    self.assertEqual(greatest[node], max(found))
                if least is not None:
                    self.assertEqual(least[node], min(found))

    def test_they_cap_and_bear(self):
        for web in [*WEBS, long_web(), wide_web(23), wide_web(24, moves=2), wide_web(25, weight=1)]:
            most, least = mean_most(web), mean_least(web)
            self.assertIs(caps(web, most, numbers_for(web, most)), True)
            self.assertIs(bears(web, least, numbers_for(web, least, least=True)), True)
            self.assertEqual(cap_numbers(web), numbers_for(web, most))
            self.assertEqual(bear_numbers(web), numbers_for(web, least, least=True))
            for sign in [-1, 1]:
                near = (most[0] * 10 ** 40 + sign, most[1] * 10 ** 40)
                self.assertEqual(numbers_for(web, near) is None, sign < 0)
                near = (least[0] * 10 ** 40 + sign, least[1] * 10 ** 40)
                self.assertEqual(numbers_for(web, near, least=True) is None, sign > 0)

    def test_a_long_web(self):
        web = long_web()
        self.assertEqual(cap_numbers(web), (119,) + tuple(range(119)))
        self.assertEqual(bear_numbers(web=web), (0,) + tuple(range(-119, 0)))
        self.assertEqual(cap_numbers(web=(((-4, 0),),)), (0,))

    def test_errors(self):
        for asked in [cap_numbers, bear_numbers]:
            for thing in NO_WEBS:
                with self.assertRaises(BadWeb):
                    asked(thing)
        for least in [False, True]:
            for thing in NO_WEBS:
                with self.assertRaises(BadWeb):
                    numbers_for(thing, None, least=least)
            for thing in NO_FRACTIONS:
                with self.subTest(thing=str(thing)), self.assertRaises(BadFraction):
                    numbers_for(TREE, thing, least=least)


def plain_tight(web, best):
    found = [steps for steps in simple_rings(web) if mean_of(web, steps) == best]
    return sorted({step for steps in found for step in steps})


class TightMoves(unittest.TestCase):
    def test_by_hand(self):
        self.assertEqual(tight_moves(TREE), [(1, 0), (2, 0)])
        self.assertEqual(tight_moves(TREE, least=True), [(3, 0)])
        self.assertEqual(tight_moves(web=long_web(), least=False), [(node, 0) for node in range(120)])
        self.assertEqual(tight_moves((((1, 0), (0, 0), (1, 0)),)), [(0, 0), (0, 2)])
        with self.assertRaises(TypeError):
            tight_moves(TREE, True)

    def test_tight_moves_that_lead_from_ring_to_ring(self):
        # the move from node 0 to node 1 is tight for the numbers, but lies on no ring
        self.assertEqual(tight_moves((((0, 0), (0, 1)), ((0, 1),))), [(0, 0), (1, 0)])

    def test_all_rings_of_small_webs(self):
        for web in [*WEBS, *small_webs(26, 80, nodes=5, moves=3, weight=1)]:
            self.assertEqual(tight_moves(web), plain_tight(web, max(means(web))))
            self.assertEqual(tight_moves(web, least=True), plain_tight(web, min(means(web))))

    def test_the_list_is_new(self):
        tight_moves(TREE).clear()
        self.assertEqual(tight_moves(TREE), [(1, 0), (2, 0)])

    def test_errors(self):
        for thing in NO_WEBS:
            for least in [False, True]:
                with self.assertRaises(BadWeb):
                    tight_moves(thing, least=least)


class RoomOf(unittest.TestCase):
    def test_by_hand(self):
        self.assertEqual(room_of(TREE, 1, 0), 0)
        self.assertEqual(room_of(TREE, 3, 0), 1)
        self.assertIsNone(room_of(TREE, 0, 0))
        self.assertIsNone(room_of(TREE, 0, 1))
        self.assertIsNone(room_of(TREE, 4, 0))
        self.assertIsNone(room_of(web=TREE, node=4, index=1))
        # the bound of weights is left aside
        self.assertEqual(room_of((((10 ** 6, 0), (-10 ** 6, 0)),), 0, 1), 2 * 10 ** 6)

    def test_plain_search(self):
        for web in [*WEBS, *small_webs(27, 40, nodes=5, moves=2, weight=4)]:
            best = max(means(web))
            for node, moves in enumerate(web):
                for index, (weight, _) in enumerate(moves):
                    found = room_of(web, node, index)
                    if found is None:
                        self.assertEqual(max(means(with_weight(web, node, index, 10 ** 9))), best)
                    else:
                        self.assertGreaterEqual(found, 0)
                        self.assertEqual(max(means(with_weight(web, node, index, weight + found))), best)
                        self.assertGreater(max(means(with_weight(web, node, index, weight + found + 1))), best)

    def test_great_webs(self):
        for web in [wide_web(28, weight=10 ** 5), wide_web(29, moves=3, weight=100)]:
            best = mean_most(web)
            self.assertTrue(all(room_of(web, *move) == 0 for move in tight_moves(web)))
            for node, index in [(0, 0), (60, 1), (119, 2)]:
                found = room_of(web, node, index)
                weight = web[node][index][0]
                self.assertEqual(mean_most(with_weight(web, node, index, weight + found)), best)
                self.assertNotEqual(mean_most(with_weight(web, node, index, weight + found + 1)), best)

    def test_errors(self):
        for thing in NO_WEBS:
            with self.assertRaises(BadWeb):
                room_of(thing, None, None)
        for thing in [None, True, False, -1, 5, "0", (0,), 10 ** 40]:
            with self.subTest(thing=str(thing)):
                with self.assertRaises(BadMove):
                    room_of(TREE, thing, 0)
                with self.assertRaises(BadMove):
                    room_of(TREE, 0, thing)
        for node, index in [(1, 1), (0, 2), (4, 2)]:
            with self.assertRaises(BadMove):
                room_of(TREE, node, index)


class SumMost(unittest.TestCase):
    def test_by_hand(self):
        self.assertIsNone(sum_most(TREE))
        self.assertIsNone(sum_walk(TREE))
        web = (((-1, 1), (2, 2)), ((5, 2),), ((0, 2), (-1, 0)))
        self.assertIsNone(sum_most(web))
        web = (((-1, 1), (2, 2)), ((5, 2),), ((0, 2), (-4, 0)))
        self.assertEqual(sum_most(web), 4)
        self.assertEqual(sum_walk(web), [0, 0])
        self.assertEqual(sum_most(web=(((-1, 0),),)), 0)
        self.assertEqual(sum_walk(web=(((0, 0),),)), [])

    def test_the_first_shortest_walk(self):
        # by index 0 three moves with this sum, by index 1 just two
        web = (((1, 1), (2, 2), (1, 2)), ((1, 2),), ((1, 3), (2, 3)), ((0, 3),))
        self.assertEqual(sum_most(web), 4)
        self.assertEqual(sum_walk(web), [1, 1])
        web = (((1, 1), (2, 2), (2, 2)), ((1, 2),), ((1, 3), (1, 3)), ((0, 3),))
        self.assertEqual(sum_most(web), 3)
        self.assertEqual(sum_walk(web), [1, 0])

    def test_all_walks_of_small_webs(self):
        found = 0
        for web in [*small_webs(31, 300, nodes=5, moves=2), *small_webs(32, 100, nodes=4, moves=3, weight=1)]:
            if max(means(web)) > 0:
                self.assertIsNone(sum_most(web))
                self.assertIsNone(sum_walk(web))
                continue
            found += 1
            plain = walks_up_to(web, len(web))
            best = max(total for _, _, total in plain)
            first = min((len(indexes), indexes) for indexes, _, total in plain if total == best)
            self.assertEqual(sum_most(web), best)
            self.assertEqual(sum_walk(web), first[1])
        self.assertGreater(found, 40)

    def test_great_webs(self):
        web = tuple(((1, min(node + 1, 119)), (-200, 0)) for node in range(119)) + (((0, 119),),)
        self.assertEqual(sum_most(web), 119)
        self.assertEqual(sum_walk(web), [0] * 119)
        lowered = tuple(tuple((weight - 10 ** 6, target) for weight, target in moves) for moves in wide_web(33, weight=0))
        self.assertEqual(sum_most(lowered), 0)
        self.assertEqual(sum_walk(lowered), [])
        # weights by which all sums of walks are those of their ends alone, less some
        heights = [(node * 37) % 120 for node in range(120)]
        web = tuple(
            tuple((heights[target] - heights[node] - at, target) for at, (_, target) in enumerate(moves))
            for node, moves in enumerate(wide_web(34))
        )
        self.assertEqual(walk_end(web, sum_walk(web))[1], sum_most(web))
        self.assertIs(caps(web, (0, 1), numbers_for(web, (0, 1))), True)

    def test_the_list_is_new(self):
        web = (((1, 1),), ((0, 1),))
        sum_walk(web).append(0)
        self.assertEqual(sum_walk(web), [0])

    def test_errors(self):
        for thing in NO_WEBS:
            for asked in [sum_most, sum_walk]:
                with self.assertRaises(BadWeb):
                    asked(thing)


class SumsAfter(unittest.TestCase):
    def test_by_hand(self):
        self.assertEqual(sums_after(TREE, 0), (0, None, None, None, None))
        self.assertEqual(sums_after(TREE, 1), (None, 0, None, -8, None))
        self.assertEqual(sums_after(TREE, 60), (None, None, 147, 51, None))
        self.assertEqual(sums_after(web=(((10 ** 6, 0),),), count=60), (6 * 10 ** 7,))

    def test_all_walks_of_small_webs(self):
        for web in WEBS:
            for count in range(6):
                ends = [(end, total) for _, end, total in walks(web, count)]
                self.assertEqual(sums_after(web, count), tuple(
                    max((total for end, total in ends if end == node), default=None) for node in range(len(web))
                ))

    def test_great_webs(self):
        found = sums_after(wide_web(35), 60)
        self.assertEqual(len(found), 120)
        self.assertEqual(sums_after(long_web(), 60), (None,) * 60 + (1,) + (None,) * 59)

    def test_errors(self):
        for thing in NO_WEBS:
            with self.assertRaises(BadWeb):
                sums_after(thing, None)
        for thing in [*NO_COUNTS, 61]:
            with self.subTest(thing=str(thing)), self.assertRaises(BadCount):
                sums_after(TREE, thing)


class Kinds(unittest.TestCase):
    def test_tuples_and_lists(self):
        for value in [numbers_for(TREE, (9, 1)), cap_numbers(TREE), bear_numbers(TREE), sums_after(TREE, 3)]:
            self.assertIs(value.__class__, tuple)
        for value in [tight_moves(TREE), sum_walk((((0, 0),),))]:
            self.assertIs(value.__class__, list)
        self.assertIs(tight_moves(TREE)[0].__class__, tuple)
        self.assertEqual(mean_most(TREE), pair(Fraction(5, 2)))


if __name__ == "__main__":
    unittest.main()
