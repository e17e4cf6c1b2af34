"""Rings and means of webs, and of what is like them inside (see sums.py)."""

from parlourday.graphs import part_numbers, parts_of, walk_back
from parlourday.plain import is_greater, lowest_terms
from parlourday.sums import best_sums, sum_rows, walk_steps, weighed


def leads_of(web):
    """For each node the list of the targets of its moves."""
    return [[target for _, target in moves] for moves in web]


def greatest_means(web):
    """For each node that is met the greatest mean of a ring met from it on, None for the others."""
    means = [None] * len(web)
    for members in parts_of(leads_of(web), [0]):
        best = part_mean(web, members)
        for node in members:
            for _, target in web[node]:
                best = greater_mean(best, means[target])
        for node in members:
            means[node] = lowest_terms(best)
    return tuple(means)


def greatest_mean(web):
    """The greatest mean of a ring of the web, in lowest terms."""
    return greatest_means(web)[0]


def greater_mean(mean, other):
    """The greater one of two fractions, each perhaps None."""
    if mean is None or (other is not None and is_greater(other, mean)):
        return other
    return mean


def part_mean(web, members):
    """The greatest mean of a ring in a part whose nodes all lead to one another, None without one.

    In as many moves as there are nodes a walk goes round at least once: the greatest mean is the
    greatest, of all nodes, of the least slope from a shorter walk to it up to such a one.
    """
    places = {node: place for place, node in enumerate(members)}
    inner = [inner_moves(web[node], places) for node in members]
    rows = sum_rows(inner, len(members))
    best = None
    for place in range(len(members)):
        best = greater_mean(best, least_slope(rows, place))
    return best


def inner_moves(moves, places):
    """The moves that stay in a part, with the places of their targets in it."""
    return [(weight, places[target]) for weight, target in moves if target in places]


def least_slope(rows, place):
    """The least slope from an earlier sum at a place to its last one, None if that is None."""
    last = len(rows) - 1
    end = rows[last][place]
    if end is None:
        return None
    least = None
    for count in range(last):
        total = rows[count][place]
        if total is not None:
            slope = (end - total, last - count)
            if least is None or is_greater(least, slope):
                least = slope
    return least


def ring_moves(web):
    """For each node the ascending list of the indexes of its moves in rounds with the greatest mean."""
    gains = weighed(web, greatest_mean(web))
    numbers = best_sums(gains)
    met = walk_steps(web)
    tight = [
        [index for index, (gain, target) in enumerate(moves) if node in met and gain + numbers[target] == numbers[node]]
        for node, moves in enumerate(gains)
    ]
    leads = [[web[node][index][1] for index in indexes] for node, indexes in enumerate(tight)]
    parts = part_numbers(parts_of(leads, list(met)), len(web))
    # Along a round the numbers come back to where they were: with the greatest mean all its moves are tight.
    return [
        [index for index in indexes if parts[web[node][index][1]] == parts[node]]
        for node, indexes in enumerate(tight)
    ]


def greatest_ring(web):
    """A ring with the greatest mean: no node twice ahead, none twice in its round."""
    indexes = ring_moves(web)
    node = [place for place, found in enumerate(indexes) if found][0]
    walk = []
    places = {}
    while node not in places:
        places[node] = len(walk)
        walk.append(indexes[node][0])
        node = web[node][indexes[node][0]][1]
    return (walk_back(walk_steps(web), node), walk[places[node]:])
