"""Small games, and plain searches over all ways to compare the program with."""

import itertools
from fractions import Fraction
from random import Random

from tests.plain_search import met, means, small_web, walks_up_to


def small_games(seed, count, *, nodes=4, moves=3, weight=3):
    """So many games, the same ones at each run."""
    chance = Random(seed)
    found = []
    for _ in range(count):
        web = small_web(chance, nodes, moves, weight)
        found.append((tuple(chance.choice(["house", "guests"]) for _ in web), web))
    return found


def great_game(seed, *, nodes=30, moves=12, weight=50, owners=("house", "guests")):
    chance = Random(seed)
    web = tuple(
        tuple((chance.randint(-weight, weight), chance.randrange(nodes)) for _ in range(moves)) for _ in range(nodes)
    )
    return (tuple(chance.choice(owners) for _ in web), web)


def ways(game, owner):
    """All ways of an owner."""
    owners, web = game
    choices = [range(len(moves)) if mine == owner else [None] for mine, moves in zip(owners, web)]
    return list(itertools.product(*choices))


def left(web, way):
    return tuple(moves if index is None else (moves[index],) for index, moves in zip(way, web))


def plain_values(game):
    """For each node the least, over all ways of the house, of the greatest mean that is met from it on."""
    webs = [left(game[1], way) for way in ways(game, "house")]
    return [min(max(means(web, node)) for web in webs) for node in range(len(game[1]))]


def plain_values_of_guests(game):
    webs = [left(game[1], way) for way in ways(game, "guests")]
    return [max(min(means(web, node)) for web in webs) for node in range(len(game[1]))]


def plain_need(web, node, fraction):
    """The greatest gain of a walk from a node, None if there is none greatest."""
    if max(means(web, node)) > Fraction(*fraction):
        return None
    above, below = fraction
    return max(below * total - above * len(indexes) for indexes, _, total in walks_up_to(web, len(web), node))


def plain_needs(game, fraction):
    webs = [left(game[1], way) for way in ways(game, "house")]
    found = []
    for node in range(len(game[1])):
        needs = [plain_need(web, node, fraction) for web in webs]
        needs = [need for need in needs if need is not None]
        found.append(min(needs) if needs else None)
    return tuple(found)


def plain_steps(game, node, count):
    """What must still come from a node in so many moves, and the first best index there."""
    if count == 0:
        return 0, None
    sums = [weight + plain_steps(game, target, count - 1)[0] for weight, target in game[1][node]]
    best = min(sums) if game[0][node] == "house" else max(sums)
    return best, sums.index(best)


def plain_caps(web, fraction, numbers):
    """Whether numbers cap a fraction, as the document tells it."""
    above, below = fraction
    return all(
        below * weight - above + numbers[target] <= numbers[node] for node in met(web) for weight, target in web[node]
    )


def plain_bears(web, fraction, numbers):
    above, below = fraction
    return all(
        below * weight - above + numbers[target] >= numbers[node] for node in met(web) for weight, target in web[node]
    )


GAME = (("house", "guests"), (((0, 0), (1, 1)), ((2, 0),)))

NO_GAMES = [
    None, True, 0, "game", b"", {}, [], (), (("house",),), (("house",), (((0, 0),),), ()), [("house",), (((0, 0),),)],
    (["house"], (((0, 0),),)), (("house",), [((0, 0),)]), (("House",), (((0, 0),),)), ((0,), (((0, 0),),)),
    ((None,), (((0, 0),),)), ((b"house",), (((0, 0),),)), (((),), (((0, 0),),)), ((), (((0, 0),),)),
    (("house", "guests"), (((0, 0),),)), (("house",), ()), (("house",), (((0, 1),),)), (("house",), (((True, 0),),)),
    (("house",), (((51, 0),),)), (("guests",), (((-51, 0),),)), (("house",), (((0, 0),) * 13,)),
    (("house",) * 31, (((0, 0),),) * 31), (("house", "host"), (((0, 0),), ((0, 0),))),
    (("house", "guests"), (((0, 0), (51, 0)), ((0, 0),))), (("house", "guests"), (((0, 0),), ((0, 0), (-51, 1)))),
    ("house", (((0, 0),),)), ("h", (((0, 0),),)),
]

NO_OWNERS = [None, True, 0, 1, "", "House", "guest", "houses", b"house", ("house",), ["house"], {}]
