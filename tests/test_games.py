import itertools
import unittest
from fractions import Fraction

from parlourday.errors import BadCount, BadFraction, BadGame, BadOwner, BadWay
from parlourday.games import (
    game_mean, game_needs, game_paper, game_shows, game_steps, game_turned, game_values, guests_way, held, house_way,
    steps_lines, steps_play,
)
from parlourday.numbers import bears, caps
from parlourday.rings import mean_least, mean_most
from parlourday.webs import is_web

from tests.plain_games import (
    GAME, NO_GAMES, NO_OWNERS, great_game, left, plain_bears, plain_caps, plain_needs, plain_steps, plain_values,
    plain_values_of_guests, small_games, ways,
)
from tests.plain_search import NO_COUNTS, NO_FRACTIONS, long_web, means, pair, small_webs

GAMES = [GAME, *small_games(51, 150), *small_games(52, 40, weight=50), *small_games(53, 40, weight=1, moves=2)]
# five nodes at most, many ways
MORE = small_games(54, 25, nodes=5, moves=2, weight=4)
FRACTIONS = [(0, 1), (1, 1), (-1, 2), (3, 2), (6, 4), (-3, 1), (0, 5), (10 ** 30, 3 * 10 ** 29)]
# at 0 the house has a dear way out, of a ring that gains little
SLOW = (("house", "guests", "house"), (((50, 2), (-50, 1)), ((50, 0), (49, 0)), ((-50, 2),)))


def greatest_games():
    for seed in range(4):
        yield great_game(55 + seed)
        yield great_game(65 + seed, moves=2)
        yield great_game(75 + seed, moves=3, weight=1)
    for owner in ["house", "guests"]:
        yield great_game(85, owners=[owner])
        yield great_game(86, moves=2, owners=[owner])


class Held(unittest.TestCase):
    def test_by_hand(self):
        self.assertEqual(held(GAME, "house", (0, None)), (((0, 0),), ((2, 0),)))
        self.assertEqual(held(GAME, "house", (1, None)), (((1, 1),), ((2, 0),)))
        self.assertEqual(held(game=GAME, owner="guests", way=(None, 0)), (((0, 0), (1, 1)), ((2, 0),)))

    def test_which_moves_are_left(self):
        for game in GAMES[:60]:
            for owner in ["house", "guests"]:
                for way in ways(game, owner)[:20]:
                    web = held(game, owner, way)
                    self.assertEqual(web, left(game[1], way))
                    self.assertIs(is_web(web), True)

    def test_errors(self):
        for thing in NO_GAMES:
            with self.subTest(thing=str(thing)), self.assertRaises(BadGame):
                held(thing, None, None)
        for thing in NO_OWNERS:
            with self.subTest(thing=str(thing)), self.assertRaises(BadOwner):
                held(GAME, thing, None)
        for thing in [
            None, 0, True, "", [], (), [0, None], (0,), (0, None, None), (0, 0), (None, None), (2, None), (-1, None),
            (True, None), (False, None), ("0", None), ((0,), None), {0: 0, 1: None}, (0, False),
        ]:
            with self.subTest(thing=str(thing)), self.assertRaises(BadWay):
                held(GAME, "house", thing)
        with self.assertRaises(BadWay):
            held(GAME, "guests", (0, None))


class Means(unittest.TestCase):
    def test_by_hand(self):
        self.assertEqual(game_mean(GAME), (0, 1))
        self.assertEqual(game_values(GAME), ((0, 1), (0, 1)))
        self.assertEqual(house_way(GAME), (0, None))
        self.assertEqual(guests_way(game=GAME), (None, 0))
        turned = (("guests", "house"), GAME[1])
        self.assertEqual(game_mean(game=turned), (3, 2))
        self.assertEqual(game_values(game=turned), ((3, 2), (3, 2)))
        self.assertEqual(guests_way(turned), (1, None))
        self.assertEqual(house_way(game=turned), (None, 0))

    def test_all_ways_of_small_games(self):
        for game in GAMES + MORE:
            values = plain_values(game)
            self.assertEqual(values, plain_values_of_guests(game))
            self.assertEqual(game_values(game), tuple(pair(value) for value in values))
            self.assertEqual(game_mean(game), pair(values[0]))
            self.assertIn(house_way(game), ways(game, "house"))
            self.assertIn(guests_way(game), ways(game, "guests"))
            self.assertEqual(max(means(left(game[1], house_way(game)))), values[0])
            self.assertEqual(min(means(left(game[1], guests_way(game)))), values[0])

    def test_games_of_one_owner(self):
        for web in [web for web in small_webs(56, 60, weight=50)]:
            for owner, best in [("house", min), ("guests", max)]:
                game = ((owner,) * len(web), web)
                values = tuple(pair(best(means(web, node))) for node in range(len(web)))
                self.assertEqual(game_values(game), values)
                self.assertEqual(game_mean(game), values[0])

    def test_the_greatest_games(self):
        for game in greatest_games():
            mean = game_mean(game)
            self.assertEqual(mean_most(held(game, "house", house_way(game))), mean)
            self.assertEqual(mean_least(held(game, "guests", guests_way(game))), mean)
            values = game_values(game)
            self.assertEqual(values[0], mean)
            for node in [1, 17, 29]:
                self.assertEqual(game_mean(begun_at(game, node)), values[node])

    def test_long_rings(self):
        for owner in ["house", "guests"]:
            self.assertEqual(game_mean(((owner,) * 30, long_web(30))), (1, 30))
            self.assertEqual(game_values(((owner,) * 30, long_web(30))), ((1, 30),) * 30)
        # two long rings that differ by as little as can be: 1 / 29 and 1 / 30
        web = tuple(((1 if node == 0 else 0, (node + 1) % 30),) for node in range(30))
        web = web[:28] + (((0, 29), (0, 0)),) + web[29:]
        self.assertEqual(game_mean((("house",) * 30, web)), (1, 30))
        self.assertEqual(game_mean((("guests",) * 30, web)), (1, 29))

    def test_weights_at_their_bounds(self):
        for weight in [-50, 50]:
            for owner in ["house", "guests"]:
                self.assertEqual(game_mean(((owner,), (((weight, 0),),))), (weight, 1))

    def test_errors(self):
        for asked in [game_mean, game_values, house_way, guests_way, game_turned]:
            for thing in NO_GAMES:
                with self.subTest(thing=str(thing)), self.assertRaises(BadGame):
                    asked(thing)


def begun_at(game, node):
    """The game with a node exchanged with node 0."""
    places = list(range(len(game[1])))
    places[0], places[node] = node, 0
    web = tuple(tuple((weight, places[target]) for weight, target in game[1][place]) for place in places)
    return (tuple(game[0][place] for place in places), web)


class Papers(unittest.TestCase):
    def test_they_show_the_mean(self):
        for game in [*GAMES, SLOW, *greatest_games()]:
            mean = game_mean(game)
            for owner in ["house", "guests"]:
                paper = game_paper(game, owner)
                self.assertIs(game_shows(game, owner, mean, paper), True)
                self.assertIs(game_shows(game, owner, mean, list(paper)), False)
                below = (mean[0] * 10 ** 6 - (1 if owner == "house" else -1), mean[1] * 10 ** 6)
                self.assertIs(game_shows(game, owner, below, paper), False)
                web = held(game, owner, paper[0])
                self.assertIs((caps if owner == "house" else bears)(web, mean, paper[1]), True)

    def test_changed_papers(self):
        for game in GAMES[:80]:
            mean = game_mean(game)
            for owner, holds in [("house", plain_caps), ("guests", plain_bears)]:
                way, numbers = game_paper(game, owner)
                for other in ways(game, owner)[:12]:
                    paper = (other, numbers)
                    self.assertIs(game_shows(game, owner, mean, paper), holds(left(game[1], other), mean, numbers))
                for place, step in itertools.product(range(len(numbers)), [-5, -1, 1, 5]):
                    changed = numbers[:place] + (numbers[place] + step,) + numbers[place + 1:]
                    expected = holds(left(game[1], way), mean, changed)
                    self.assertIs(game_shows(game, owner, mean, (way, changed)), expected)

    def test_fractions_not_in_lowest_terms(self):
        game = (("guests", "house"), GAME[1])
        way, numbers = game_paper(game, "guests")
        self.assertEqual(numbers, (-1, 0))
        self.assertIs(game_shows(game, "guests", (3, 2), (way, numbers)), True)
        self.assertIs(game_shows(game, "guests", (6, 4), (way, numbers)), False)
        self.assertIs(game_shows(game, "guests", (6, 4), (way, (-2, 0))), True)
        self.assertIs(game_shows(game=game, owner="guests", fraction=(3, 2), thing=(way, (-2, 0))), False)

    def test_other_objects(self):
        for thing in [
            None, 0, True, "", [], (), ((0, None),), ((0, None), (0, 0), ()), [(0, None), (0, 0)], ([0, None], (0, 0)),
            ((0, None), [0, 0]), ((0, None), (0,)), ((0, None), (0, 0, 0)), ((0, None), (0, True)), ((0, None), None),
            ((0, None), (0, "0")), (None, (0, 0)), ((False, None), (0, 2)), ((2, None), (0, 2)), ((0, 0), (0, 2)),
            {"way": 1},
        ]:
            with self.subTest(thing=str(thing)):
                self.assertIs(game_shows(GAME, "house", (0, 1), thing), False)
        self.assertIs(game_shows(GAME, "house", (0, 1), ((0, None), (0, -7))), True)

    def test_errors(self):
        for thing in NO_GAMES:
            with self.assertRaises(BadGame):
                game_paper(thing, None)
            with self.assertRaises(BadGame):
                game_shows(thing, None, None, None)
        for thing in NO_OWNERS:
            with self.assertRaises(BadOwner):
                game_paper(GAME, thing)
            with self.assertRaises(BadOwner):
                game_shows(GAME, thing, None, None)
        for thing in NO_FRACTIONS:
            with self.assertRaises(BadFraction):
                game_shows(GAME, "house", thing, None)


class Needs(unittest.TestCase):
    def test_by_hand(self):
        self.assertEqual(game_needs(GAME, (0, 1)), (0, 2))
        self.assertEqual(game_needs(GAME, (-1, 1)), (None, None))
        self.assertEqual(game_needs(game=GAME, fraction=(0, 2)), (0, 4))
        self.assertEqual(game_needs(((("house",)), (((0, 0), (5, 0)),)), (0, 1)), (0,))

    def test_all_ways_of_small_games(self):
        for game, fraction in itertools.product(GAMES[:120] + MORE, FRACTIONS):
            self.assertEqual(game_needs(game, fraction), plain_needs(game, fraction))

    def test_at_the_values_themselves(self):
        for game in GAMES + MORE:
            for value in game_values(game):
                self.assertEqual(game_needs(game, value), plain_needs(game, value))

    def test_none_just_above(self):
        for game in greatest_games():
            values = [Fraction(*value) for value in game_values(game)]
            for value in sorted(set(values))[:6]:
                for near in [Fraction(0), Fraction(1, 10 ** 55), Fraction(-1, 10 ** 55)]:
                    fraction = pair(value + near)
                    found = [need is None for need in game_needs(game, fraction)]
                    self.assertEqual(found, [other > value + near for other in values])

    def test_rings_that_gain_little(self):
        fraction = (10 ** 59 - 1, 10 ** 59)
        game = (("house", "house"), (((1, 0), (50, 1)), ((0, 1),)))
        self.assertEqual(game_needs(game, fraction), (49 * 10 ** 59 + 1, 0))
        self.assertEqual(game_needs(game, (1, 1)), (0, 0))
        self.assertEqual(game_needs(SLOW, (0, 1)), plain_needs(SLOW, (0, 1)))

    def test_errors(self):
        for thing in NO_GAMES:
            with self.assertRaises(BadGame):
                game_needs(thing, None)
        for thing in NO_FRACTIONS:
            with self.assertRaises(BadFraction):
                game_needs(GAME, thing)


class Turned(unittest.TestCase):
    def test_by_hand(self):
        self.assertEqual(game_turned(game=GAME), (("guests", "house"), (((0, 0), (-1, 1)), ((-2, 0),))))

    def test_twice_and_its_mean(self):
        for game in [*GAMES, *greatest_games()]:
            turned = game_turned(game)
            self.assertEqual(game_turned(turned), game)
            above, below = game_mean(game)
            self.assertEqual(game_mean(turned), (-above, below))


class Steps(unittest.TestCase):
    def test_by_hand(self):
        self.assertEqual(game_steps(GAME, 0), 0)
        self.assertEqual(game_steps(GAME, 3), 0)
        self.assertEqual(steps_play(GAME, 3), [0, 0, 0])
        self.assertEqual(steps_lines(GAME, 2), [(0, 0), (0, 2), (0, 2)])
        turned = (("guests", "house"), GAME[1])
        self.assertEqual(game_steps(game=turned, count=3), 4)
        self.assertEqual(steps_lines(game=turned, count=3), [(0, 0), (1, 2), (3, 3), (4, 5)])
        self.assertEqual(steps_play(game=turned, count=3), [1, 0, 1])
        self.assertEqual(steps_play(GAME, 0), [])

    def test_all_plays_of_small_games(self):
        for game, count in itertools.product(GAMES[:70], [0, 1, 2, 3, 5]):
            lines = [
                tuple(plain_steps(game, node, gone)[0] for node in range(len(game[1]))) for gone in range(count + 1)
            ]
            self.assertEqual(steps_lines(game, count), lines)
            self.assertEqual(game_steps(game, count), lines[-1][0])
            play, node = [], 0
            for gone in range(count, 0, -1):
                play.append(plain_steps(game, node, gone)[1])
                node = game[1][node][play[-1]][1]
            self.assertEqual(steps_play(game, count), play)

    def test_the_greatest_games(self):
        for game in greatest_games():
            lines = steps_lines(game, 12)
            self.assertEqual(len(lines), 13)
            total, node = 0, 0
            for index in steps_play(game, 12):
                total, node = total + game[1][node][index][0], game[1][node][index][1]
            self.assertEqual(total, game_steps(game, 12))
            self.assertEqual(total, lines[12][0])

    def test_errors(self):
        for asked in [game_steps, steps_lines, steps_play]:
            for thing in NO_GAMES:
                with self.assertRaises(BadGame):
                    asked(thing, None)
            for thing in [*NO_COUNTS, 13]:
                with self.subTest(thing=str(thing)), self.assertRaises(BadCount):
                    asked(GAME, thing)


if __name__ == "__main__":
    unittest.main()
