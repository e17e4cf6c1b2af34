"""Contests of all deeds, gone through beat by beat: the least that the house can hold behind a view."""

from parlourday.contests import weighed_moves
from parlourday.graphs import finished
from parlourday.ways import FIRST


def deed_order(contest):
    """The numbers of all views, each one behind those to which its deeds within the beat lead."""
    _, owned, moves = contest
    leads = [
        [target for _, _, target in options if owned[target]] if mine else []
        for mine, options in zip(owned, moves)
    ]
    return [number for number in finished(leads, list(range(len(owned)))) if owned[number]]


def least_within(gains, order, line):
    """A line with what it tells of starts, and for each view the least that can come of it within the beat.

    None where a start can come of which the line tells None.
    """
    found = list(line)
    for number in order:
        ahead = [None if found[target] is None else gain + found[target] for gain, target in gains[number]]
        found[number] = None if None in ahead else min(ahead)
    return found


def least_steps(contest, count):
    """The least cost of so many beats that the house can hold; those away at the first one are left aside."""
    _, owned, moves = contest
    gains = weighed_moves(moves, (0, 1))
    order = deed_order(contest)
    line = [0] * len(owned)
    views = line
    for _ in range(count):
        views = least_within(gains, order, line)
        line = [
            None if mine else max([weight + views[target] for weight, target in options])
            for mine, options in zip(owned, gains)
        ]
    return max([views[target] for _, target in gains[FIRST]])


def guests_hold(contest, fraction, numbers, chosen):
    """Whether the numbers of starts are borne by the comers that are chosen there, whatever deeds are done.

    chosen is the list of (start, index of the comers).
    """
    places, owned, moves = contest
    gains = weighed_moves(moves, fraction)
    line = [None] * len(owned)
    for start, number in numbers.items():
        line[places[start]] = number
    views = least_within(gains, deed_order(contest), line)
    for start, index in chosen:
        gain, target = gains[places[start]][index]
        if views[target] is None or numbers[start] > gain + views[target]:
            return False
    return True
