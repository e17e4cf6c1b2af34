"""The next few beats: the greatest that can be counted in them, whatever the comers."""

from parlourday.house import bill_count, house_beat
from parlourday.numbers import first_best
from parlourday.setups import comers_of


def ahead_walk(setup, rule, standing, what, beats):
    """The tuple (sum, indexes) of the greatest sum in so many beats from a standing on, and the first row with it."""
    layers, moves = layers_ahead(setup, rule, standing, what, beats)
    lines = [{place: 0 for place in layers[-1]}]
    for layer in layers[-2::-1]:
        line = lines[-1]
        lines.append({place: max([weight + line[after] for weight, after in moves[place]]) for place in layer})
    walk = []
    place = standing
    for left in range(beats, 0, -1):
        index = first_best(moves[place], lines[left - 1], lines[left][place])
        walk.append(index)
        place = moves[place][index][1]
    return (lines[-1][standing], walk)


def layers_ahead(setup, rule, standing, what, beats):
    """The tuple (layers, moves): the standings behind 0 to so many beats, and the dict of their moves.

    A standing has a move (what is counted, standing after) for each comers; the last layer needs none.
    """
    layers = [[standing]]
    moves = {}
    for _ in range(beats):
        for place in layers[-1]:
            if place not in moves:
                moves[place] = counted_moves(setup, rule, place, what)
        behind = {after: True for place in layers[-1] for _, after in moves[place]}
        layers.append(list(behind))
    return (layers, moves)


def counted_moves(setup, rule, place, what):
    """The list of (what is counted, standing after) of a beat from a standing on, for all comers."""
    beats = [house_beat(setup, rule, place, comers) for comers in comers_of(setup)]
    return [(bill_count(setup, what, bill), after) for after, bill, _ in beats]
