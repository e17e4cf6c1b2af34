"""Numbers on the nodes of a web, that show how great or small the sums of walks can be."""

from parlourday.cycles import greatest_mean, ring_moves
from parlourday.errors import BadMove
from parlourday.plain import check_count, check_fraction, is_whole, is_whole_in, turned_fraction
from parlourday.sums import best_sums, holds_up, line_ahead, met_nodes, sum_rows, sums_from, turned, weighed
from parlourday.webs import check_web

MOST_MOVES_SUMMED = 60


def is_numbers(web, thing):
    """Whether an object is numbers for a web."""
    return isinstance(thing, tuple) and len(thing) == len(web) and all([is_whole(number) for number in thing])


def caps(web, fraction, thing):
    """Whether any object is numbers for the web that cap the fraction."""
    check_web(web)
    check_fraction(fraction)
    return is_numbers(web, thing) and holds_up(weighed(web, fraction), thing)


def bears(web, fraction, thing):
    """Whether any object is numbers for the web that bear the fraction."""
    check_web(web)
    check_fraction(fraction)
    return is_numbers(web, thing) and holds_up(turned(weighed(web, fraction)), turned_numbers(thing))


def turned_numbers(numbers):
    """The tuple of the numbers with the other sign."""
    return tuple([-number for number in numbers])


def numbers_for(web, fraction, *, least=False):
    """The least numbers from 0 on that cap the fraction, None if none do.

    With least=True, the greatest numbers up to 0 that bear it.
    """
    check_web(web)
    check_fraction(fraction)
    return bearing_numbers(web, fraction) if least else best_sums(weighed(web, fraction))


def bearing_numbers(web, fraction):
    """The greatest numbers up to 0 that bear a fraction, None if none do."""
    sums = best_sums(turned(weighed(web, fraction)))
    return None if sums is None else turned_numbers(sums)


def cap_numbers(web):
    """The least numbers from 0 on that cap the greatest mean."""
    check_web(web)
    return best_sums(weighed(web, greatest_mean(web)))


def bear_numbers(web):
    """The greatest numbers up to 0 that bear the least mean."""
    check_web(web)
    return bearing_numbers(web, turned_fraction(greatest_mean(turned(web))))


def tight_moves(web, *, least=False):
    """The ascending list of all (node, index) of the moves in rounds with the greatest mean.

    With least=True, of those with the least mean.
    """
    check_web(web)
    found = ring_moves(turned(web) if least else web)
    return [(node, index) for node, indexes in enumerate(found) for index in indexes]


def room_of(web, node, index):
    """The greatest integer by which one weight may grow so that the greatest mean stays as it is.

    None if it may grow by any.
    """
    check_web(web)
    if not (is_whole_in(node, 0, len(web) - 1) and is_whole_in(index, 0, len(web[node]) - 1)):
        raise BadMove("there is no such node, or no such move of it")
    if node not in met_nodes(web):
        return None
    mean = greatest_mean(web)
    gains = weighed(web, mean)
    gain, target = gains[node][index]
    back = sums_from(gains, target)[node]
    return None if back is None else -(gain + back) // mean[1]


def sum_most(web):
    """The greatest sum of a walk of the web, None if there is none greatest."""
    check_web(web)
    sums = best_sums(web)
    return None if sums is None else sums[0]


def sum_walk(web):
    """The first shortest walk with the greatest sum, None if there is none greatest."""
    check_web(web)
    sums = best_sums(web)
    return None if sums is None else shortest_walk(web, sums[0])


def shortest_walk(web, total):
    """The first shortest walk with a sum that is reached and that no walk has more than."""
    lines = [[0] * len(web)]
    while lines[-1][0] != total:
        lines.append(line_ahead(web, lines[-1]))
    return walk_by_lines(web, lines, 0)


def walk_by_lines(web, lines, node):
    """The first walk from a node by which the best sums come about that lines tell, the last one at first.

    What a line tells of the way still to go leaves just the moves that keep the sum in reach.
    """
    walk = []
    for count in range(len(lines) - 1, 0, -1):
        index = first_best(web[node], lines[count - 1], lines[count][node])
        walk.append(index)
        node = web[node][index][1]
    return walk


def first_best(moves, line, total):
    """The first index of a move that comes to a sum together with what a line tells of its target."""
    return [index for index, (weight, target) in enumerate(moves) if weight + line[target] == total][0]


def sums_after(web, count):
    """The tuple of the greatest sum of a walk of just so many moves to each node, None if there is none."""
    check_web(web)
    check_count(count, 0, MOST_MOVES_SUMMED)
    return tuple(sum_rows(web, count)[-1])
