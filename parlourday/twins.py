"""One single more: the house beside itself, where a single more came at one beat.

The table of twins has, from BEFORE on, the pairs (standing without, standing with the single more) at the
end of that beat and of all later ones, and their beats ((after, twin after), beat, twin beat).
"""

from parlourday.graphs import walk_back
from parlourday.house import EMPTY_HOUSE, bill_count, house_table
from parlourday.numbers import walk_by_lines
from parlourday.setups import comers_of, row_at
from parlourday.sums import best_sums, line_ahead
from parlourday.tables import steps_of, table_of, table_web

BEFORE = ()
MOST_PAIRS = 600
# A growth that is shown where there is none greatest.
MUCH = 10


def single_starts(setup, table):
    """The list of all (standing, index) of a beat at which one single more may come."""
    coming = comers_of(setup)
    return [
        (standing, index)
        for standing in table for index, comers in enumerate(coming) if comers[1] < setup[3][1]
    ]


def standings_beside(setup, rule):
    """The table of the house, as far as it can be if there are not too many pairs.

    Each standing but the first one is in a pair, as what a beat leads to with, or without, one single more.
    """
    return house_table(setup, rule, 2 * MOST_PAIRS + 1)


def twin_table(setup, table):
    """The table of twins; TooMany if there are more than six hundred pairs."""
    # With the same groups, one single more stands next among all comers.
    starts = [(table[standing][index], table[standing][index + 1]) for standing, index in single_starts(setup, table)]

    def beats_from(pair):
        both = starts if pair == BEFORE else list(zip(table[pair[0]], table[pair[1]]))
        return [((beat[0], twin[0]), beat, twin) for beat, twin in both]

    return table_of(BEFORE, beats_from, MOST_PAIRS + 1)


def growth_web(setup, twins):
    """The web of the twins: by how much the cost of a beat grows by the single more."""
    return table_web(
        twins, lambda beat: bill_count(setup, "cost", beat[2][1]) - bill_count(setup, "cost", beat[1][1])
    )


def greatest_growth(web):
    """The greatest growth of the cost of a row, None if there is none greatest."""
    sums = best_sums(web)
    return None if sums is None else max([weight + sums[target] for weight, target in web[0]])


def growing_row(setup, table, web):
    """The tuple (row, place) of a shortest row with the greatest growth, or with much if there is none greatest."""
    most = greatest_growth(web)
    walk, index, rest = growing_walk(setup, table, web, MUCH if most is None else most)
    row = walk + [index] + rest
    return (row_at(setup, row), first_growing(setup, table, row, most))


def first_growing(setup, table, row, most):
    """The least place at which a row, of indexes, grows so, as has_growth tells; there is one."""
    place = 0
    while not has_growth(setup, table, row, place, most):
        place += 1
    return place


def growing_walk(setup, table, web, wanted):
    """The tuple (walk, index, rest) of the shortest indexes ahead, of and behind a beat with a wanted growth."""
    steps = steps_of(table, EMPTY_HOUSE)
    starts = single_starts(setup, table)
    far = [len(walk_back(steps, standing)) for standing, _ in starts]
    lines = [[0] * len(web)]
    best = None
    while best is None or len(lines) < best[0]:
        fits = [at for at, (weight, target) in enumerate(web[0]) if weight + lines[-1][target] >= wanted]
        if fits:
            nearest = min(fits, key=lambda at: far[at])
            reached = (far[nearest] + len(lines), nearest, len(lines))
            best = reached if best is None else min(best, reached)
        lines.append(line_ahead(web, lines[-1]))
    _, at, count = best
    standing, index = starts[at]
    return (walk_back(steps, standing), index, walk_by_lines(web, lines[:count], web[0][at][1]))


def has_growth(setup, table, row, place, most):
    """Whether a row, of indexes, grows so by one single more at a place: by most, or by much if most is None."""
    if comers_of(setup)[row[place]][1] == setup[3][1]:
        return False
    changed = row[:place] + [row[place] + 1] + row[place + 1:]
    growth = cost_along(setup, table, changed) - cost_along(setup, table, row)
    return growth >= MUCH if most is None else growth == most


def cost_along(setup, table, row):
    """The cost of a row of indexes."""
    standing = EMPTY_HOUSE
    cost = 0
    for index in row:
        standing, bill, _ = table[standing][index]
        cost += bill_count(setup, "cost", bill)
    return cost


def felt_beats(twins):
    """The greatest number of beats behind the first one at whose end twins still differ, -1 if they never do.

    None if there is none greatest.
    """

    def unlike(pair):
        return [behind for behind, _, _ in twins[pair] if behind[0] != behind[1]]

    layer = {after: True for after in unlike(BEFORE)}
    count = -1
    while layer:
        count += 1
        # As long as there are pairs, and more: some pair has come again.
        if count > len(twins):
            return None
        layer = {after: True for pair in layer for after in unlike(pair)}
    return count
