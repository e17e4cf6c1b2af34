"""Plain searches over deeds, to compare the program with. Nothing of the program is used here.

A state is the view, or the start (line, singles, tubs) of a beat, as the document tells them.
"""

import itertools
from fractions import Fraction

from tests.plain_parlour import comers_of
from tests.plain_tubs import deeds_at as tub_deeds_at
from tests.plain_tubs import done

FIRST = ((), 0, ())
# Setups with few views.
TINY = [
    (1, (1,), (1, 0), (1, 0), (1,), 1, (1, 2, 3, 4)), (1, (1,), (1, 0), (1, 0), (1,), 1, (0, 1, 5, 2)),
    (2, (2,), (1, 0), (1, 0), (2,), 1, (2, 1, 1, 3)), (1, (1,), (1, 1), (0, 1), (2,), 2, (1, 3, 2, 1)),
    (2, (1,), (1, 0), (1, 0), (2,), 2, (3, 2, 1, 5)), (1, (1,), (1, 1), (1, 1), (2,), 2, (1, 3, 2, 1)),
    (2, (1, 2), (1, 0), (1, 1), (2,), 2, (3, 5, 2, 2)), (2, (2,), (1, 1), (1, 1), (1, 3), 2, (2, 3, 4, 1)),
    (3, (2,), (1, 1), (1, 1), (2, 3), 1, (4, 3, 5, 2)), (2, (1, 2), (2, 1), (1, 0), (2,), 2, (1, 1, 2, 1)),
    (4, (3,), (1, 0), (1, 2), (3,), 1, (5, 4, 3, 2)), (2, (1, 2), (1, 2), (1, 2), (1, 2), 1, (1, 2, 3, 4)),
]


def come(setup, start, comers):
    """Who is away, and the view when comers have come."""
    line, singles, tubs = start
    away = 0
    for size in comers[0]:
        if len(line) < setup[2][0]:
            line += (size,)
        else:
            away += size
    for _ in range(comers[1]):
        if singles < setup[2][1]:
            singles += 1
        else:
            away += 1
    return away, ("seat", line, singles, tubs, setup[0])


def arrivals(setup, start):
    return [come(setup, start, comers) for comers in comers_of(setup)]


def can_do(view):
    kind, line, singles, tubs, number = view
    if kind == "tub":
        return tub_deeds_at(tubs)
    found = ["group"] if line and line[0] <= number else []
    return found + (["single"] if singles and number else []) + ["go"]


def do(setup, view, deed):
    """What a deed leads to, and the counts (empty, melted, unserved) that it brings."""
    kind, line, singles, tubs, number = view
    if deed == "group":
        return ("seat", line[1:], singles, tubs, number - line[0]), (0, 0, 0)
    if deed == "single":
        return ("seat", line, singles - 1, tubs, number - 1), (0, 0, 0)
    if deed == "go":
        return ("tub", line, singles, tubs, setup[0] - number), (number if line or singles else 0, 0, 0)
    if deed != "rest":
        return ("tub", line, singles, done(setup, tubs, number, deed)[0], number), (0, 0, 0)
    counts = []
    for prices in [(0, 1, 0, 0), (0, 0, 1, 0)]:
        after, count = done(setup[:6] + (prices,), tubs, number, deed)
        counts.append(count)
    return (line, singles, after), (0, *counts)


def price(setup, counts):
    return sum(number * cost for number, cost in zip(counts, setup[6][:3]))


def all_views(setup, most=None):
    """All views that can come; perhaps not all if there are more than most."""
    known, starts = set(), {FIRST}
    fresh = [view for _, view in arrivals(setup, FIRST)]
    while fresh and (most is None or len(known) <= most):
        view = fresh.pop()
        if view in known:
            continue
        known.add(view)
        for deed in can_do(view):
            after, _ = do(setup, view, deed)
            if len(after) == 5:
                fresh.append(after)
            elif after not in starts:
                starts.add(after)
                fresh += [further for _, further in arrivals(setup, after)]
    return sorted(known), starts


def beat_ends(setup, view):
    """All (deeds, start behind the beat, counts) of a beat from a view on."""
    found = []
    for deed in can_do(view):
        after, counts = do(setup, view, deed)
        if deed == "rest":
            found.append(((deed,), after, counts))
        else:
            for deeds, start, more in beat_ends(setup, after):
                found.append(((deed,) + deeds, start, tuple(map(sum, zip(counts, more)))))
    return found


def plain_best_way_holds(setup, fraction, way):
    above, below = fraction
    views, _ = all_views(setup)
    numbers = {view: number for view, _, number in way}
    if len(numbers) < len(way) or any(view not in numbers for _, view in arrivals(setup, FIRST)):
        return False
    for view, deed, number in way:
        if view not in views or deed not in can_do(view):
            return False
        after, counts = do(setup, view, deed)
        behind = [(0, after)] if deed != "rest" else arrivals(setup, after)
        for away, further in behind:
            gain = below * (price(setup, counts) + away * setup[6][3]) - (above if deed == "rest" else 0)
            if further not in numbers or number < numbers[further] + gain:
                return False
    return True


def plain_guests_hold(setup, fraction, way):
    above, below = fraction
    _, starts = all_views(setup)
    numbers = {start: number for start, _, number in way}
    if len(numbers) < len(way) or FIRST not in numbers:
        return False
    for start, comers, number in way:
        if start not in starts or comers not in comers_of(setup):
            return False
        away, view = come(setup, start, comers)
        for _, after, counts in beat_ends(setup, view):
            cost = price(setup, counts) + away * setup[6][3]
            if after not in numbers or number > numbers[after] + below * cost - above:
                return False
    return True


def way_means(setup, deeds):
    """The greatest mean of the cost by one deed for each view, by all rings without a start twice."""
    edges, fresh = {}, [FIRST]
    while fresh:
        start = fresh.pop()
        if start not in edges:
            edges[start] = {}
            for away, view in arrivals(setup, start):
                cost = away * setup[6][3]
                while len(view) == 5:
                    view, counts = do(setup, view, deeds[view])
                    cost += price(setup, counts)
                edges[start][view] = max(cost, edges[start].get(view, cost))
            fresh += edges[start]
    means = []
    for first in edges:
        paths = [(first, 0, [first])]
        while paths:
            start, total, path = paths.pop()
            for after, cost in edges[start].items():
                if after == first:
                    means.append(Fraction(total + cost, len(path)))
                elif after > first and after not in path:
                    paths.append((after, total + cost, path + [after]))
    return max(means)


def count_ways(setup):
    count = 1
    for view in all_views(setup)[0]:
        count *= len(can_do(view))
    return count


def plain_best_mean(setup):
    """The least greatest mean over all ways that look at the view alone."""
    views, _ = all_views(setup)
    return min(way_means(setup, dict(zip(views, deeds))) for deeds in itertools.product(*map(can_do, views)))


def best_rest(setup, view, beats, ends):
    """The least cost that the deeds from a view on hold in so many beats; ends tells what a last start costs."""
    memo = {}

    def least(now, left):
        if (now, left) not in memo:
            found = []
            for deed in can_do(now):
                after, counts = do(setup, now, deed)
                cost = price(setup, counts)
                if deed != "rest":
                    found.append(cost + least(after, left))
                elif left == 1:
                    found.append(cost + ends(after))
                else:
                    found.append(cost + max(
                        away * setup[6][3] + least(further, left - 1) for away, further in arrivals(setup, after)
                    ))
            memo[(now, left)] = min(found)
        return memo[(now, left)]

    return least(view, beats)


def day_end(setup, start):
    line, singles, tubs = start
    return (sum(line) + singles) * setup[6][3] + sum(portions for _, portions in tubs) * setup[6][1]


def strict_steps(setup, what, beats):
    """The least cost of so many beats with the number of a word ever 0, those away at first aside; None if none."""
    place = ["empty", "melted", "unserved"].index(what) if what != "away" else None
    infinite = None
    memo = {}

    def least(now, left):
        if (now, left) in memo:
            return memo[(now, left)]
        found = []
        for deed in can_do(now):
            after, counts = do(setup, now, deed)
            if place is not None and counts[place]:
                continue
            if deed != "rest":
                rest = least(after, left)
            elif left == 1:
                rest = 0
            else:
                rests = [
                    (away, least(further, left - 1)) for away, further in arrivals(setup, after)
                ]
                bad = any(rest is None or (what == "away" and away) for away, rest in rests)
                rest = None if bad else max(away * setup[6][3] + rest for away, rest in rests)
            if rest is not None:
                found.append(price(setup, counts) + rest)
        memo[(now, left)] = min(found) if found else infinite
        return memo[(now, left)]

    totals = [least(view, beats) for _, view in arrivals(setup, FIRST)]
    return None if None in totals else max(totals)
