"""Days: the beats of a day against all comers, view by view, and days whose comers are known ahead."""

from parlourday.alone import opening_table
from parlourday.bench import come_in
from parlourday.errors import TooMany
from parlourday.setups import comers_of
from parlourday.views import (
    EMPTY_START, away_cost, behind_deed, deed_cost, deeds_at, end_cost, first_views,
)

MOST_DAY_VIEWS = 800


def day_behind(setup, view, deed, last):
    """The list of (cost, view) behind a deed; at the last beat rest brings the day's end, and no view: None."""
    if deed != "rest" or not last:
        return behind_deed(setup, view, deed)
    after, cost = deed_cost(setup, view, deed)
    return [(cost + end_cost(setup, after), None)]


def day_views(setup, beats):
    """For each beat of a day the list of the views that can come, in the order in which they are found.

    TooMany if there are too many in all beats together.
    """
    layers = []
    level = {view: True for _, view in first_views(setup)}
    count = 0
    for _ in range(beats):
        found = list(level)
        level = {}
        at = 0
        known = {view: True for view in found}
        while at < len(found):
            view = found[at]
            at += 1
            for deed in deeds_at(view):
                for _, further in behind_deed(setup, view, deed):
                    if deed == "rest":
                        level[further] = True
                    elif further not in known:
                        known[further] = True
                        found.append(further)
            if count + len(found) > MOST_DAY_VIEWS:
                raise TooMany("too many beats with views can come on such a day")
        count += len(found)
        layers.append(found)
    return layers


def within_beat(view):
    """What orders the views of a beat so that each one stands behind those to which its deeds lead."""
    what, _, _, tubs, number = view
    return (0, -len(tubs)) if what == "tub" else (1, number)


def day_lines(setup, layers):
    """For each beat the dict of its views with (number, deed): the least that the rest of the day can cost."""
    lines = []
    ahead = {}
    for beat in range(len(layers) - 1, -1, -1):
        last = beat == len(layers) - 1
        line = {}
        for view in sorted(layers[beat], key=within_beat):
            line[view] = best_deed(setup, view, last, line, ahead)
        lines.append(line)
        ahead = line
    return lines[::-1]


def best_deed(setup, view, last, line, ahead):
    """The tuple (number, deed) of the first best deed at a view."""
    best = None
    for deed in deeds_at(view):
        behind = ahead if deed == "rest" else line
        number = max([
            cost if further is None else cost + behind[further][0]
            for cost, further in day_behind(setup, view, deed, last)
        ])
        if best is None or number < best[0]:
            best = (number, deed)
    return best


def day_number(setup, line):
    """The least cost of a day by the line of its first beat, those away at it included."""
    return max([away_cost(setup, away) + line[view][0] for away, view in first_views(setup)])


def day_entries(setup, lines):
    """The list of the entries (beat, view, number, deed) of a table, of the views that come by its deeds."""
    entries = []
    level = {view: True for _, view in first_views(setup)}
    for beat, line in enumerate(lines):
        found = list(level)
        known = {view: True for view in found}
        level = {}
        while found:
            view = found.pop()
            number, deed = line[view]
            entries.append((beat, view, number, deed))
            for _, further in day_behind(setup, view, deed, beat == len(lines) - 1):
                if deed == "rest":
                    level[further] = True
                elif further not in known:
                    known[further] = True
                    found.append(further)
    return entries


def bench_ends(setup, line, singles):
    """The list of (line, singles, asked, cost, deeds) of all that a bench can do until it goes.

    Groups sit ahead of singles: the order changes nothing behind the beat.
    """
    found = []
    for groups in range(len(line) + 1):
        for alone in range(singles + 1):
            asked = sum(line[:groups]) + alone
            if asked <= setup[0]:
                waits = len(line) > groups or singles > alone
                cost = setup[6][0] * (setup[0] - asked) if waits else 0
                deeds = ("group",) * groups + ("single",) * alone + ("go",)
                found.append((line[groups:], singles - alone, asked, cost, deeds))
    return found


def known_beat(setup, openings, start, comers):
    """The dict, for each start of the next beat, of the least (cost, deeds) by which these comers lead to it.

    openings is the table of all that can be opened (alone.py).
    """
    line, singles, tubs = start
    line, singles, away = come_in(setup, line, singles, comers)
    found = {}
    for waiting, alone, asked, empty, deeds in bench_ends(setup, line, singles):
        for opened, left, dear in openings[tubs][asked]:
            cost = away_cost(setup, away) + empty + dear
            after = (waiting, alone, left)
            if after not in found or cost < found[after][0]:
                found[after] = (cost, deeds + opening_deeds(setup, opened))
    return found


def opening_deeds(setup, opened):
    """The tuple of the deeds by which tubs with these portions are opened, rest at last."""
    return tuple(["small" if held == setup[4][0] else "great" for held in opened]) + ("rest",)


def known_layers(setup, row):
    """For 0 to all beats of a row, the dict of the starts behind it with the least (cost, start ahead, deeds)."""
    openings = opening_table(setup)
    layers = [{EMPTY_START: (0, None, ())}]
    for comers in row:
        layer = {}
        for start, (paid, _, _) in layers[-1].items():
            for after, (cost, deeds) in known_beat(setup, openings, start, comers).items():
                if after not in layer or paid + cost < layer[after][0]:
                    layer[after] = (paid + cost, start, deeds)
        layers.append(layer)
    return layers


def least_end(setup, layer):
    """The tuple (cost, start) of the least cost of a day that ends behind a layer, and the start then."""
    return min([(layer[start][0] + end_cost(setup, start), start) for start in layer])


def least_known(setup, row):
    """The least cost of a day whose row is known ahead."""
    cost, _ = least_end(setup, known_layers(setup, row)[-1])
    return cost


def least_deeds(setup, row):
    """The list of the tuples of deeds by which a day whose row is known ahead costs least."""
    layers = known_layers(setup, row)
    _, start = least_end(setup, layers[-1])
    found = []
    for layer in layers[:0:-1]:
        _, ahead, deeds = layer[start]
        found.append(deeds)
        start = ahead
    return found[::-1]


def known_costs(setup, beats):
    """For each row of so many beats, as a tuple of indexes, ascending, the least cost of a day with it."""
    openings = opening_table(setup)
    count = len(comers_of(setup))
    layers = {(): {EMPTY_START: 0}}
    for _ in range(beats - 1):
        ends = ends_behind(setup, openings, starts_of(layers))
        layers = {
            row + (index,): least_behind(layer, [(start, ends[(start, index)]) for start in layer])
            for row, layer in layers.items() for index in range(count)
        }
    last = {
        place: min([cost + end_cost(setup, after) for after, cost in behind])
        for place, behind in ends_behind(setup, openings, starts_of(layers)).items()
    }
    return {
        row + (index,): min([paid + last[(start, index)] for start, paid in layer.items()])
        for row, layer in layers.items() for index in range(count)
    }


def starts_of(layers):
    """The ascending list of all starts of some layers."""
    return sorted(set([start for layer in layers.values() for start in layer]))


def ends_behind(setup, openings, starts):
    """For each start and index of comers the list of (start, cost) of what the beat can lead to."""
    ends = {}
    for start in starts:
        for index, comers in enumerate(comers_of(setup)):
            behind = known_beat(setup, openings, start, comers)
            ends[(start, index)] = [(after, cost) for after, (cost, _) in behind.items()]
    return ends


def least_behind(layer, ends):
    """The dict, for each start behind a beat, of the least cost by which it comes from a layer.

    ends lists, for each start of the layer, what the beat leads to.
    """
    found = {}
    for start, behind in ends:
        for after, cost in behind:
            total = layer[start] + cost
            if after not in found or total < found[after]:
                found[after] = total
    return found
