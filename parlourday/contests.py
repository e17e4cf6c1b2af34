"""Means to which the house can hold contests with the guests: games, and what is like them inside.

A move is a tuple (weight, length, target), length 0 or 1; the mean of a ring is the sum of its
weights, divided by that of its lengths, which is never 0. The house wants small means.
"""

from parlourday.energy import least_needs
from parlourday.errors import TooMany
from parlourday.graphs import search
from parlourday.plain import lowest_terms


def weighed_moves(moves, fraction):
    """The moves (gain, target): how far weights are above a fraction, times its below."""
    above, below = fraction
    return [[(below * weight - above * length, target) for weight, length, target in options] for options in moves]


def contest_means(owned, moves, low, high):
    """The list of the means from each node, all of them above the integer low and at most high."""
    longest = longest_ring(moves)
    cells = longest * longest
    means = [None] * len(moves)
    waiting = [(list(range(len(moves))), low * cells, high * cells)]
    while waiting:
        nodes, under, top = waiting.pop()
        if top - under == 1:
            for node in nodes:
                means[node] = fraction_between(under, top, cells)
        else:
            middle = (under + top) // 2
            held, others = parted(owned, moves, nodes, (middle, cells))
            if held:
                waiting.append((held, under, middle))
            if others:
                waiting.append((others, middle, top))
    return means


def contest_mean(owned, moves, start, low, high):
    """The mean from a start alone, as contest_means tells it."""
    longest = longest_ring(moves)
    cells = longest * longest
    nodes, under, top = list(range(len(moves))), low * cells, high * cells
    while top - under > 1:
        middle = (under + top) // 2
        held, others = parted(owned, moves, nodes, (middle, cells))
        if start in held:
            nodes, top = held, middle
        else:
            nodes, under = others, middle
    return fraction_between(under, top, cells)


def longest_ring(moves):
    """A number that no length of a ring without a node twice is above."""
    return len([options for options in moves if any([length > 0 for _, length, _ in options])])


def parted(owned, moves, nodes, fraction):
    """The tuple (held, others) of those nodes from which the house can hold the mean to a fraction, or cannot.

    nodes are such that no owner gains by a move that leaves them. Then this holds for both lists, too:
    the house has no move from the others to those that are held, the guests none the other way round.
    """
    places = {node: place for place, node in enumerate(nodes)}
    inner = [[move for move in moves[node] if move[2] in places] for node in nodes]
    gains = [
        [(gain, places[target]) for gain, target in options]
        for options in weighed_moves(inner, fraction)
    ]
    needs, _ = least_needs([owned[node] for node in nodes], gains)
    held = [node for node, need in zip(nodes, needs) if need is not None]
    others = [node for node, need in zip(nodes, needs) if need is None]
    return (held, others)


def fraction_between(under, top, cells):
    """The fraction of the least length above under / cells and at most top / cells.

    If cells is the square of a length, and under and top are one apart, no other one is between
    them that has at most this length.
    """
    length = 1
    while top * length // cells * cells <= under * length:
        length += 1
    return lowest_terms((top * length // cells, length))


def contest_from(first, options, most=None):
    """The contest (places, owned, moves) of all places that come from a first one.

    options(place) tells whether the house chooses there, and its moves, with places as targets. places
    is a dict with their numbers, that of the first one 0. TooMany if the house chooses at more than most.
    """
    places = {first: 0}
    waiting = [first]
    owned = []
    moves = []
    while len(owned) < len(waiting):
        mine, leads = options(waiting[len(owned)])
        owned.append(mine)
        moves.append(leads)
        for _, _, target in leads:
            if target not in places:
                places[target] = len(places)
                waiting.append(target)
        if most is not None and mine and owned.count(True) > most:
            raise TooMany(f"the house can come to choose at more than {most}")
    numbered = [[(weight, length, places[target]) for weight, length, target in leads] for leads in moves]
    return (places, owned, numbered)


def held_entries(contest, fraction):
    """The list of (place, index, need) of a way by which the house holds a contest to a fraction.

    Of the places that come by it, those at which the house chooses, with the index of the chosen move.
    """
    places, owned, moves = contest
    needs, way = least_needs(owned, weighed_moves(moves, fraction))

    def leads(number):
        options = moves[number] if way[number] is None else [moves[number][way[number]]]
        return [target for _, _, target in options]

    met = search(0, leads)
    return [
        (place, way[number], needs[number])
        for place, number in places.items() if owned[number] and number in met
    ]


def turned_contest(contest):
    """The contest seen from the guests: with the owners exchanged and each weight with the other sign."""
    places, owned, moves = contest
    return (
        places, [not mine for mine in owned],
        [[(-weight, length, target) for weight, length, target in options] for options in moves],
    )
