"""Small webs, and plain searches over their walks and rings to compare the program with."""

from fractions import Fraction
from random import Random


def small_webs(seed, count, *, nodes=4, moves=3, weight=3):
    """So many webs, the same ones at each run."""
    chance = Random(seed)
    return [small_web(chance, nodes, moves, weight) for _ in range(count)]


def small_web(chance, nodes, moves, weight):
    size = chance.randint(1, nodes)
    return tuple(
        tuple((chance.randint(-weight, weight), chance.randrange(size)) for _ in range(chance.randint(1, moves)))
        for _ in range(size)
    )


def wide_web(seed, *, nodes=120, moves=12, weight=10 ** 6):
    """A web with as many nodes and moves as can be."""
    chance = Random(seed)
    return tuple(
        tuple((chance.randint(-weight, weight), chance.randrange(nodes)) for _ in range(moves))
        for _ in range(nodes)
    )


def long_web(nodes=120):
    """One ring through all nodes, of mean 1 / nodes."""
    return tuple(((1 if node == 0 else 0, (node + 1) % nodes),) for node in range(nodes))


def met(web, start=0):
    """The ascending list of the nodes that are met from a start."""
    known = {start}
    while True:
        further = known | {target for node in known for _, target in web[node]}
        if further == known:
            return sorted(known)
        known = further


def walks(web, length, start=0):
    """All walks of just so many moves: tuples (indexes, end, sum)."""
    found = [([], start, 0)]
    for _ in range(length):
        found = [
            (indexes + [index], target, total + weight)
            for indexes, node, total in found
            for index, (weight, target) in enumerate(web[node])
        ]
    return found


def walks_up_to(web, length, start=0):
    return [walk for count in range(length + 1) for walk in walks(web, count, start)]


def simple_rings(web, start=0):
    """All rounds without a node twice that are met from a start: lists of (node, index)."""
    found = []
    for first in met(web, start):
        paths = [(first, [])]
        while paths:
            node, steps = paths.pop()
            for index, (_, target) in enumerate(web[node]):
                if target == first:
                    found.append(steps + [(node, index)])
                elif target > first and target not in [place for place, _ in steps]:
                    paths.append((target, steps + [(node, index)]))
    return found


def mean_of(web, steps):
    return Fraction(sum(web[node][index][0] for node, index in steps), len(steps))


def means(web, start=0):
    return [mean_of(web, steps) for steps in simple_rings(web, start)]


def pair(fraction):
    """A Fraction as the program tells it."""
    return (fraction.numerator, fraction.denominator)


def with_weight(web, node, index, weight):
    """The web with another weight of one move."""
    moves = list(web[node])
    moves[index] = (weight, moves[index][1])
    return web[:node] + (tuple(moves),) + web[node + 1:]


NO_WEBS = [
    None, True, 0, 1, "web", b"", {}, [], (), ((),), (((0, 0),), ()), [((0, 0),)], ([(0, 0)],), (([0, 0],),),
    (((0, 1),),), (((0, -1),),), (((0,),),), (((0, 0, 0),),), (((True, 0),),), (((0, False),),), (((0, None),),),
    ((("0", 0),),), (((10 ** 6 + 1, 0),),), (((-10 ** 6 - 1, 0),),), (((0, 0),),) * 121, (((0, 0),) * 13,),
    (0,), ((0, 0),), ((0,),), {0: ((0, 0),)},
]

NO_FRACTIONS = [
    None, 1, True, "1/2", [1, 2], (), (1,), (1, 2, 3), (1, 0), (1, -2), (0, 0), (True, 1), (1, True), (False, 1),
    ("1", 2), (1, None), ((1, 2), 1),
]

NO_COUNTS = [None, True, False, -1, "1", [1], (1,), 10 ** 40]
