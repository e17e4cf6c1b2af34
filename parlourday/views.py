"""Views: what the house sees amid a beat, the deeds that it can do there, and what comes behind them.

A view is ("seat", line, singles, tubs, left) or ("tub", line, singles, tubs, asked). A start is a tuple
(line, singles, tubs) at the beginning of a beat, ahead of its comers.
"""

from parlourday.bench import bench_deeds, come_in
from parlourday.cellar import end_beat, portions_open, tub_deeds, tubs_cost, with_tub
from parlourday.plain import is_firm
from parlourday.setups import comers_of

EMPTY_START = ((), 0, ())


def is_view_form(thing):
    """Whether any object has the form of a view, so that it can be looked for among views."""
    if not (isinstance(thing, tuple) and len(thing) == 5):
        return False
    return isinstance(thing[0], str) and is_firm(thing[1:], 3)


def deeds_at(view):
    """The tuple of the deeds that can be done at a view."""
    what, line, singles, tubs, number = view
    return bench_deeds(line, singles, number) if what == "seat" else tub_deeds(tubs)


def coming_views(setup, start):
    """The list, for all comers in their order, of (away, view): how many are away, and what is seen then."""
    line, singles, tubs = start
    found = []
    for comers in comers_of(setup):
        waiting, alone, away = come_in(setup, line, singles, comers)
        found.append((away, ("seat", waiting, alone, tubs, setup[0])))
    return found


def first_views(setup):
    """The list, for all comers of the first beat, of (away, view)."""
    return coming_views(setup, EMPTY_START)


def deed_done(setup, view, deed):
    """The tuple (after, empty, unserved, melted) of a deed: the view after it, behind rest the next start."""
    _, line, singles, tubs, number = view
    if deed == "group":
        return (("seat", line[1:], singles, tubs, number - line[0]), 0, 0, 0)
    if deed == "single":
        return (("seat", line, singles - 1, tubs, number - 1), 0, 0, 0)
    if deed == "go":
        empty = number if line or singles > 0 else 0
        return (("tub", line, singles, tubs, setup[0] - number), empty, 0, 0)
    if deed == "rest":
        left, unserved, melted = end_beat(setup, tubs, number)
        return ((line, singles, left), 0, unserved, melted)
    return (("tub", line, singles, with_tub(setup, tubs, deed), number), 0, 0, 0)


def deed_cost(setup, view, deed):
    """The tuple (after, cost) of a deed; that of those who are away at the next beat is left aside."""
    after, empty, unserved, melted = deed_done(setup, view, deed)
    return (after, setup[6][0] * empty + tubs_cost(setup, unserved, melted))


def away_cost(setup, away):
    """What those who are away cost."""
    return setup[6][3] * away


def what_is_left(start):
    """The tuple (away, melted) if a day ends at a start: all who wait, each guest of a group, and all portions."""
    line, singles, tubs = start
    return (sum(line) + singles, portions_open(tubs))


def end_cost(setup, start):
    """What the end of a day costs at a start."""
    away, melted = what_is_left(start)
    return away_cost(setup, away) + tubs_cost(setup, 0, melted)


def behind_deed(setup, view, deed):
    """The list of (cost, view) of all views that can be next behind a deed, those away at the next beat included."""
    after, cost = deed_cost(setup, view, deed)
    if deed != "rest":
        return [(cost, after)]
    return [(cost + away_cost(setup, away), further) for away, further in coming_views(setup, after)]
