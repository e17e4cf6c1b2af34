"""The contests of the house with its guests: of all deeds, and of those of one half alone.

Where one half is free, a place is (view or start, mood), mood being that of the other half's rule.
"""

from parlourday.bench import come_in, fill_bench, seated
from parlourday.cellar import portions_open, tub_beat, tubs_cost
from parlourday.contests import contest_from, contest_mean
from parlourday.setups import comers_of
from parlourday.views import EMPTY_START, away_cost, coming_views, deed_cost, deeds_at

MOST_VIEWS = 300
# The number of the empty house ahead of the first comers, in each contest.
FIRST = 0


def dearest_beat(setup):
    """A number that no beat costs more than."""
    empty, melted, unserved, away = setup[6]
    crowd = setup[1][-1] * setup[3][0] + setup[3][1]
    return setup[0] * (empty + unserved) + 2 * setup[4][-1] * melted + away * crowd


def mean_from(setup, contest, start):
    """The least fraction to which some way can hold the greatest mean of the cost from a place on."""
    _, owned, moves = contest
    return contest_mean(owned, moves, start, -1, dearest_beat(setup))


def free_moves(setup, place):
    """The tuple (owned, moves) of a view or a start where the house is free to do all deeds."""
    if len(place) == 3:
        return (False, [(away_cost(setup, away), 0, view) for away, view in coming_views(setup, place)])
    moves = []
    for deed in deeds_at(place):
        after, cost = deed_cost(setup, place, deed)
        moves.append((cost, 1 if deed == "rest" else 0, after))
    return (True, moves)


def free_contest(setup, most=MOST_VIEWS):
    """The contest of all deeds; TooMany if there are more than most views, None for any number."""
    return contest_from(EMPTY_START, lambda place: free_moves(setup, place), most)


def tub_moves(setup, seats, place):
    """The tuple (owned, moves) of a place where tubs are opened freely, and a seat rule fills the bench."""
    thing, mood = place
    if len(thing) == 3:
        return (False, [seats_move(setup, seats, place, comers) for comers in comers_of(setup)])
    _, moves = free_moves(setup, thing)
    return (True, [(cost, length, (after, mood)) for cost, length, after in moves])


def seats_move(setup, seats, place, comers):
    """The move of comers: they come, and the bench is filled by a seat rule."""
    (line, singles, tubs), mood = place
    line, singles, away = come_in(setup, line, singles, comers)
    (line, singles, mood), deeds, empty, _ = fill_bench(setup, seats, (line, singles, mood), portions_open(tubs))
    cost = setup[6][0] * empty + away_cost(setup, away)
    return (cost, 0, (("tub", line, singles, tubs, seated(deeds)), mood))


def seat_moves(setup, tubs, place):
    """The tuple (owned, moves) of a place where the bench is filled freely, and a tub rule opens tubs."""
    thing, mood = place
    owned, moves = free_moves(setup, thing)
    found = []
    for cost, length, after in moves:
        if after[0] == "tub":
            found.append(tubs_move(setup, tubs, after, mood, cost))
        else:
            found.append((cost, length, (after, mood)))
    return (owned, found)


def tubs_move(setup, rule, view, mood, empty_cost):
    """The move behind which the bench went: tubs are opened by a tub rule, and the beat ends."""
    _, line, singles, tubs, asked = view
    (left, mood), told, _ = tub_beat(setup, rule, (tubs, mood), asked, len(line) + singles)
    _, _, unserved, melted = told
    return (empty_cost + tubs_cost(setup, unserved, melted), 1, ((line, singles, left), mood))


def half_mean(setup, moves_from):
    """The least fraction to which one free half can hold the greatest mean of the cost."""
    contest = contest_from((EMPTY_START, 0), moves_from, MOST_VIEWS)
    return mean_from(setup, contest, FIRST)
