"""Sums of walks, for webs and for what is like them inside: lists of nodes, perhaps more of them.

A node is a list or tuple of moves (weight, target), as in a web; the bounds of a web do not count.
"""

from parlourday.graphs import search


def walk_steps(web):
    """How each node that is met is first met from node 0."""
    return search(0, lambda node: [target for _, target in web[node]])


def met_nodes(web):
    """The list of the nodes to which walks lead, in the order in which they are met."""
    return list(walk_steps(web))


def turned(web):
    """The web with each weight with the other sign."""
    return tuple([tuple([(-weight, target) for weight, target in moves]) for moves in web])


def weighed(web, fraction):
    """The web with, for each weight, how far it is above a fraction, times its below."""
    above, below = fraction
    return [[(below * weight - above, target) for weight, target in moves] for moves in web]


def next_sums(web, row):
    """The greatest sums of walks to each node, one move behind those of a row."""
    after = [None] * len(web)
    for node, total in enumerate(row):
        if total is not None:
            for weight, target in web[node]:
                if after[target] is None or after[target] < total + weight:
                    after[target] = total + weight
    return after


def sum_rows(web, count):
    """For 0 to so many moves, the greatest sums of walks of just so many moves to each node.

    The sum is None for a node to which no walk of so many moves leads.
    """
    rows = [[0] + [None] * (len(web) - 1)]
    for _ in range(count):
        rows.append(next_sums(web, rows[-1]))
    return rows


def line_ahead(web, line):
    """The greatest sums of walks from each node, one move longer than those of a line."""
    return [max([weight + line[target] for weight, target in moves]) for moves in web]


def lines_ahead(web, line, count):
    """The list of a line and, for 1 to so many moves, of those that are so many moves longer."""
    lines = [line]
    for _ in range(count):
        lines.append(line_ahead(web, lines[-1]))
    return lines


def best_sums(web):
    """The tuple of the greatest sum of a walk from each node that is met, of 0 for the others.

    None if there is none greatest somewhere. They are the least numbers from 0 on of which each is
    at least the weight of each of its moves and the number of the target together.
    """
    nodes = met_nodes(web)[::-1]
    sums = [0] * len(web)
    for _ in range(len(nodes)):
        if not raise_sums(web, nodes, sums):
            return tuple(sums)
    # A greatest sum is that of a walk without a ring: it would stand by now.
    return None


def raise_sums(web, nodes, sums):
    """Raise the sums of nodes by one move more, and tell whether one has grown."""
    grown = False
    for node in nodes:
        best = max([weight + sums[target] for weight, target in web[node]])
        if best > sums[node]:
            sums[node] = best
            grown = True
    return grown


def sums_from(web, start):
    """The greatest sum of a walk from a start to each node, None where none leads.

    Nothing is promised for webs with a ring that has a sum above 0.
    """
    sums = [None] * len(web)
    sums[start] = 0
    waiting = [start]
    while waiting:
        waiting = spread_sums(web, waiting, sums)
    return sums


def spread_sums(web, nodes, sums):
    """Raise the sums of what nodes lead to, and list what has grown."""
    grown = {}
    for node in nodes:
        for weight, target in web[node]:
            total = sums[node] + weight
            if sums[target] is None or sums[target] < total:
                sums[target] = total
                grown[target] = True
    return list(grown)


def holds_up(web, numbers):
    """Whether each node that is met has a number that no move of it, with its target's, is above."""
    for node in met_nodes(web):
        for weight, target in web[node]:
            if weight + numbers[target] > numbers[node]:
                return False
    return True
