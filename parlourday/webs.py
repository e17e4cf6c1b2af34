"""Webs: nodes with moves that have weights, and the walks from node 0."""

from parlourday.errors import BadWalk, BadWeb, TooMany
from parlourday.graphs import search, walk_back
from parlourday.plain import is_pair, is_whole_in
from parlourday.sums import met_nodes

MOST_NODES = 120
MOST_MOVES = 12
MOST_WEIGHT = 1000000
LONGEST_WALK = 10000


def is_web(thing):
    """Whether any object is a web."""
    if not (isinstance(thing, tuple) and 1 <= len(thing) <= MOST_NODES):
        return False
    return all([is_node(node, len(thing)) for node in thing])


def is_node(thing, size):
    """Whether an object is a node of a web of so many nodes."""
    if not (isinstance(thing, tuple) and 1 <= len(thing) <= MOST_MOVES):
        return False
    return all([is_move(move, size) for move in thing])


def is_move(thing, size):
    """Whether an object is a move of a web of so many nodes."""
    if not is_pair(thing):
        return False
    return is_whole_in(thing[0], -MOST_WEIGHT, MOST_WEIGHT) and is_whole_in(thing[1], 0, size - 1)


def check_web(thing):
    """Raise BadWeb for what is no web."""
    if not is_web(thing):
        raise BadWeb("a web is a tuple of nodes, tuples of moves (weight, target)")


def walk_end(web, walk):
    """The tuple (node, sum) of the node to which a walk leads and the sum of its weights."""
    check_web(web)
    if not isinstance(walk, list):
        raise BadWalk(-1)
    node, total, fault = follow(web, 0, walk)
    if fault is not None:
        raise BadWalk(fault)
    return (node, total)


def follow(web, start, walk):
    """Follow a list of indexes from a start: a tuple (node, sum, fault).

    fault is the place of the first entry that is no move there, None if all are.
    """
    node = start
    total = 0
    for place, index in enumerate(walk[:LONGEST_WALK]):
        if not is_whole_in(index, 0, len(web[node]) - 1):
            return (node, total, place)
        weight, node = web[node][index]
        total += weight
    return (node, total, LONGEST_WALK if len(walk) > LONGEST_WALK else None)


def nodes_met(web):
    """The ascending list of the nodes to which walks lead."""
    check_web(web)
    return sorted(met_nodes(web))


def walk_apart(web, other):
    """The first shortest list that tells the walks of two webs apart, None if there is none."""
    check_web(web)
    check_web(other)
    steps = pair_steps(web, other)
    for pair in steps:
        index = index_apart(web[pair[0]], other[pair[1]])
        if index is not None:
            return walk_back(steps, pair) + [index]
    return None


def pair_steps(web, other):
    """How each pair of nodes is first met by equal walks of two webs."""

    def pairs_behind(pair):
        return [(move[1], beside[1]) for move, beside in zip(web[pair[0]], other[pair[1]])]

    return search((0, 0), pairs_behind)


def index_apart(moves, others):
    """The first index at which just one of two nodes has a move, or the weights are unlike."""
    for index, (move, beside) in enumerate(zip(moves, others)):
        if move[0] != beside[0]:
            return index
    if len(moves) != len(others):
        return min(len(moves), len(others))
    return None


def difference(web, other):
    """The web of the pairs of nodes met by equal walks, with the weights of web less those of other."""
    check_web(web)
    check_web(other)
    pairs = sorted(pair_steps(web, other))
    if any([len(web[node]) != len(other[beside]) for node, beside in pairs]):
        raise BadWeb("the webs have unlike numbers of moves at nodes that are met together")
    places = {pair: place for place, pair in enumerate(pairs)}
    found = tuple([node_less(web[node], other[beside], places) for node, beside in pairs])
    if not is_web(found):
        raise TooMany("the pairs of nodes, or their weights, are more than a web has")
    return found


def node_less(moves, others, places):
    """The node of a pair: at each index the weights' difference and the place of the pair behind."""
    return tuple([
        (move[0] - beside[0], places[(move[1], beside[1])])
        for move, beside in zip(moves, others)
    ])
