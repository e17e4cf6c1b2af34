"""Needs: how high a house that chooses well has to let sums of gains grow.

At some nodes the house chooses the move, at the others the guests do. A move is a tuple (gain, target).
"""

from parlourday.sums import raise_sums


def least_needs(owned, moves):
    """The tuple (needs, way): what a house that chooses well needs, and the moves that it chooses.

    owned tells for each node whether the house chooses there, moves lists the moves of each node.
    needs has for each node the least number from 0 on that no sum of gains from there goes above,
    None if there is none; way the index of the chosen move at each node of the house with a need.
    """
    scale = len(moves) + 1
    # With rings of gain 0 turned into losing ones there is one answer alone, and gaining ones still gain.
    gains = [[(scale * gain - 1, target) for gain, target in options] for options in moves]
    reach = 1 + sum([max([abs(gain) for gain, _ in options]) for options in gains])
    sums, way = settled(owned, gains, reach)
    # A sum above the reach is that of a node from which the house has to give up.
    needs = [-(-total // scale) if total <= reach else None for total in sums]
    return (needs, [index if need is not None else None for index, need in zip(way, needs)])


def settled(owned, gains, reach):
    """The tuple (sums, way) at which no other move is better for the house.

    At first it gives up at each node, at a price above all sums within reach; then it takes what is
    better, again and again. So no ring on its way ever gains.
    """
    lost = guests_alone(owned, gains)
    way = [None] * len(gains)
    while True:
        sums = way_sums(owned, gains, way, lost, 3 * reach)
        better = better_way(owned, gains, sums, way)
        if better == way:
            return (sums, way)
        way = better


def way_sums(owned, gains, way, lost, price):
    """The greatest sums from each node if the house goes this way, and gives up where it has no move."""
    sums = [0] * len(gains)
    options = list(gains)
    running = []
    for node in range(len(gains)):
        if lost[node]:
            sums[node] = 2 * price
        elif not owned[node]:
            running.append(node)
        elif way[node] is None:
            sums[node] = price
        else:
            options[node] = [gains[node][way[node]]]
            running.append(node)
    while raise_sums(options, running, sums):
        pass
    return sums


def better_way(owned, gains, sums, way):
    """The way with the best move at each node of the house where it is better than what sums tell."""
    found = list(way)
    for node, options in enumerate(gains):
        if owned[node]:
            ahead = [gain + sums[target] for gain, target in options]
            if max(0, min(ahead)) < sums[node]:
                found[node] = ahead.index(min(ahead))
    return found


def guests_alone(owned, gains):
    """For each node whether the guests, the house choosing nothing, can gain ever more from it on.

    Of each ring of the guests that gains some node is told, and no node that leads to none.
    """
    inner = [
        [] if owned[node] else [(gain, target) for gain, target in options if not owned[target]]
        for node, options in enumerate(gains)
    ]
    nodes = [node for node, options in enumerate(inner) if options]
    sums = [0] * len(gains)
    for _ in nodes:
        raise_sums(inner, nodes, sums)
    # What still grows, behind as many moves as there are nodes, has gone round a ring that gains.
    return [any([gain + sums[target] > sums[node] for gain, target in inner[node]]) for node in range(len(gains))]
