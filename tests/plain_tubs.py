"""Plain searches over tubs, to compare the program with. Nothing of the program is used here."""

import itertools
from fractions import Fraction

from tests.plain_parlour import ANY, EAGER, House, first_row, no_halves, standings_by, tubs_beat

# a tub of the lesser kind for whoever asks and finds none
SAVING = ((0, (1, 9), (0, 0), ANY, ANY, "small", 0),)
# as many portions as ask, of the greater kind
READY = tuple((0, (asked, 9), (0, asked - 1), ANY, ANY, "great", 0) for asked in [1, 2, 3, 4])
CLOSED = ((), 0)
HEARING_TUBS = ((0, ANY, ANY, ANY, (0, 1), "small", 0),)
NO_TUBS = no_halves(SAVING) + [EAGER] + [
    ((0, ANY, ANY, ANY, ANY, deed, 0),) for deed in ["group", "single", "go"]
]
NO_ASKINGS = [(thing, -1) for thing in [None, True, 0, "", "01", (), (0,), {}]] + [
    ([None], 0), ([True], 0), ([False], 0), (["0"], 0), ([-1], 0), ([3], 0), ([(0,)], 0), ([[0]], 0), ([0, 2, 3], 2),
    ([0] * 201, 200), ([0] * 200 + [None], 200), ([0] * 199 + [None], 199),
]


def met_tubs(setup, rule):
    return standings_by(
        setup, CLOSED, lambda place: [tubs_beat(setup, rule, place, asked)[0] for asked in range(setup[0] + 1)]
    )


def first_asking(setup, rule, hit):
    return first_row(range(setup[0] + 1), CLOSED, lambda place, asked: tubs_beat(setup, rule, place, asked), hit)


def plain_tubs_apart(setup, rule, other, start=CLOSED, beside=CLOSED):
    def step(state, asked):
        after, word = tubs_beat(setup, rule, state[0], asked)
        twin, beyond = tubs_beat(setup, other, state[1], asked)
        return (after, twin), (word, beyond)

    return first_row(range(setup[0] + 1), (start, beside), step, lambda words: words[0] != words[1])


def tub_pairs(setup, rule, other):
    """All pairs of standings after the same askings."""
    return standings_by(setup, (CLOSED, CLOSED), lambda pair: [
        (tubs_beat(setup, rule, pair[0], asked)[0], tubs_beat(setup, other, pair[1], asked)[0])
        for asked in range(setup[0] + 1)
    ])


def used_tubs(setup, rule):
    used = set()
    for (tubs, mood), asked in itertools.product(met_tubs(setup, rule), range(setup[0] + 1)):
        house = House(setup, (), rule)
        house.tubs = [{"age": age, "portions": left, "eaten": 0, "melted": 0} for age, left in tubs]
        house.moods = [0, mood]
        house.ask(asked)
        used |= house.used[1]
    return sorted(used)


def done(setup, tubs, asked, deed):
    """Where a deed leads amid a beat: (tubs, cost), the tubs being those of the next beat after rest."""
    if deed != "rest":
        kind = setup[4][0] if deed == "small" else setup[4][-1]
        return tubs + ((0, kind),), 0
    left = [[age, portions] for age, portions in tubs]
    for tub in left:
        eaten = min(tub[1], asked)
        tub[1] -= eaten
        asked -= eaten
        tub[0] += 1
    melted = sum(portions for age, portions in left if age == setup[5])
    after = tuple((age, portions) for age, portions in left if age < setup[5] and portions > 0)
    return after, setup[6][1] * melted + setup[6][2] * asked


def deeds_at(tubs):
    return ["small", "great", "rest"] if len(tubs) < 2 else ["rest"]


def places_alone(setup):
    """All (tubs, asked) that can come."""
    asks = range(setup[0] + 1)
    known, fresh = set(), [((), asked) for asked in asks]
    while fresh:
        tubs, asked = fresh.pop()
        if (tubs, asked) not in known:
            known.add((tubs, asked))
            for deed in deeds_at(tubs):
                after, _ = done(setup, tubs, asked, deed)
                fresh += [(after, asked)] if deed != "rest" else [(after, coming) for coming in asks]
    return known


def least_costs(setup, beats):
    """For 0 to so many beats the least cost, from no tubs on, that some way can hold whatever is asked."""
    ahead = {tubs: 0 for tubs, _ in places_alone(setup)}
    costs = [0]

    def cost(tubs, asked):
        found = []
        for deed in deeds_at(tubs):
            after, more = done(setup, tubs, asked, deed)
            found.append(more + ahead[after] if deed == "rest" else cost(after, asked))
        return min(found)

    for _ in range(beats):
        ahead = {tubs: max(cost(tubs, asked) for asked in range(setup[0] + 1)) for tubs in ahead}
        costs.append(ahead[()])
    return costs


def plain_best_alone(setup):
    """The least greatest mean over all ways that look at (tubs, asked) alone: for a few places."""
    places = sorted(place for place in places_alone(setup) if len(place[0]) < 2)
    best = None
    for deeds in itertools.product(["small", "great", "rest"], repeat=len(places)):
        mean = way_mean(setup, dict(zip(places, deeds)))
        best = mean if best is None else min(best, mean)
    return best


def way_mean(setup, way):
    """The greatest mean of the cost by a way: by a plain search of the rings of tubs between beats."""
    asks = range(setup[0] + 1)
    edges = {}
    fresh = [()]
    while fresh:
        tubs = fresh.pop()
        if tubs not in edges:
            edges[tubs] = {}
            for asked in asks:
                now, deed = tubs, None
                while deed != "rest":
                    deed = way.get((now, asked), "rest")
                    now, cost = done(setup, now, asked, deed)
                edges[tubs][now] = max(cost, edges[tubs].get(now, cost))
            fresh += list(edges[tubs])
    means = []
    for first in edges:
        paths = [(first, 0, [first])]
        while paths:
            tubs, total, path = paths.pop()
            for after, cost in edges[tubs].items():
                if after == first:
                    means.append(Fraction(total + cost, len(path)))
                elif after > first and after not in path:
                    paths.append((after, total + cost, path + [after]))
    return max(means)


def plain_way_holds(setup, fraction, way):
    """Whether a list of right entries (tubs, asked, deed, number) is a tub way."""
    above, below = fraction
    asks = range(setup[0] + 1)
    places = places_alone(setup)
    numbers = {(tubs, asked): number for tubs, asked, _, number in way}
    if len(numbers) < len(way) or any(((), asked) not in numbers for asked in asks):
        return False
    for tubs, asked, deed, number in way:
        if (tubs, asked) not in places or deed not in deeds_at(tubs):
            return False
        after, cost = done(setup, tubs, asked, deed)
        behind = [(after, coming) for coming in asks] if deed == "rest" else [(after, asked)]
        gain = below * cost - above if deed == "rest" else 0
        if any(place not in numbers or number < numbers[place] + gain for place in behind):
            return False
    return True


def all_opened(setup, asking):
    """All lists of what can be opened at the beats of an asking, with their costs, as lists compare."""
    found = [([], (), 0)]
    for asked in asking:
        further = []
        for opened, tubs, cost in found:
            for deeds in [[], ["small"], ["great"], *itertools.product(["small", "great"], repeat=2)]:
                now, held = tubs, []
                if len(tubs) + len(deeds) > 2:
                    continue
                for deed in deeds:
                    now, _ = done(setup, now, asked, deed)
                    held.append(now[-1][1])
                after, more = done(setup, now, asked, "rest")
                further.append((opened + [tuple(held)], after, cost + more))
        found = further
    return sorted((opened, cost) for opened, _, cost in found)
