"""Days of a few beats: what they cost, the least that any way can hold, and what could have been done."""

from parlourday.bench import come_in
from parlourday.dayplans import (
    day_behind, day_entries, day_lines, day_number, day_views, known_costs, least_deeds, least_known,
)
from parlourday.house import (
    MOST_STANDINGS, bill_count, check_rule, counted_web, house_table, run_house,
)
from parlourday.numbers import walk_by_lines
from parlourday.plain import check_count, is_whole, is_whole_in
from parlourday.setups import check_row, check_setup, row_at
from parlourday.sums import lines_ahead
from parlourday.views import EMPTY_START, away_cost, deed_cost, deeds_at, end_cost, first_views, is_view_form

MOST_BEATS = 6
LONGEST_KNOWN = 20
MOST_REGRET_BEATS = 3


def check_rule_day(setup, rule, beats):
    """Raise BadSetup, BadRule or BadCount for what is no setup, no rule, or no number of a day's beats."""
    check_setup(setup)
    check_rule(rule)
    check_count(beats, 1, MOST_BEATS)


def rule_day(setup, rule, beats):
    """The tuple (web, lines) of the cost by a rule, and of what the rest of a day can cost at most."""
    table = house_table(setup, rule, MOST_STANDINGS)
    web = counted_web(setup, table, "cost")
    return (web, lines_ahead(web, [end_cost(setup, standing[:3]) for standing in table], beats))


def day_cost(setup, rule, beats):
    """The greatest cost of a day by a rule, whatever the comers."""
    check_rule_day(setup, rule, beats)
    _, lines = rule_day(setup, rule, beats)
    return lines[-1][0]


def day_row(setup, rule, beats):
    """The first row, as lists compare, of a day by a rule with the greatest cost."""
    check_rule_day(setup, rule, beats)
    web, lines = rule_day(setup, rule, beats)
    return row_at(setup, walk_by_lines(web, lines, 0))


def check_day(setup, beats):
    """Raise BadSetup or BadCount for what is no setup, or no number of a day's beats."""
    check_setup(setup)
    check_count(beats, 1, MOST_BEATS)


def best_day(setup, beats):
    """The least cost of a day that some way can hold, whatever the comers."""
    check_day(setup, beats)
    return day_number(setup, day_lines(setup, day_views(setup, beats))[0])


def day_table(setup, beats):
    """The ascending list of (beat, view, number, deed) which shows that a day can be held to best_day."""
    check_day(setup, beats)
    return sorted(day_entries(setup, day_lines(setup, day_views(setup, beats))))


def day_table_holds(setup, beats, most, thing):
    """Whether any object is a table which shows that a day can be held to an integer."""
    check_day(setup, beats)
    layers = [{view: True for view in layer} for layer in day_views(setup, beats)]
    if not isinstance(thing, list):
        return False
    numbers = {}
    for entry in thing:
        if not is_day_entry(entry, layers) or entry[:2] in numbers:
            return False
        numbers[entry[:2]] = entry[2]
    for away, view in first_views(setup):
        if (0, view) not in numbers or away_cost(setup, away) + numbers[(0, view)] > most:
            return False
    return all([day_deed_holds(setup, beats, numbers, entry) for entry in thing])


def is_day_entry(thing, layers):
    """Whether an object is (beat, view, number, deed) with a view that can come at the beat, and a deed of it."""
    if not (isinstance(thing, tuple) and len(thing) == 4 and is_whole_in(thing[0], 0, len(layers) - 1)):
        return False
    if not (is_view_form(thing[1]) and thing[1] in layers[thing[0]]):
        return False
    return is_whole(thing[2]) and thing[3] in deeds_at(thing[1])


def day_deed_holds(setup, beats, numbers, entry):
    """Whether the number of an entry is enough for its deed, by the numbers of the views behind it."""
    beat, view, number, deed = entry
    further_beat = beat + 1 if deed == "rest" else beat
    for cost, further in day_behind(setup, view, deed, beat == beats - 1):
        if further is not None:
            if (further_beat, further) not in numbers:
                return False
            cost += numbers[(further_beat, further)]
        if number < cost:
            return False
    return True


def known_day(setup, row):
    """The least cost of a day with just this row, if all of it is known ahead."""
    check_setup(setup)
    check_row(setup, row, LONGEST_KNOWN)
    return least_known(setup, row)


def known_deeds(setup, row):
    """The list, for each beat, of the tuple of deeds by which a day with this row costs least."""
    check_setup(setup)
    check_row(setup, row, LONGEST_KNOWN)
    return least_deeds(setup, row)


def deeds_cost(setup, row, thing):
    """The cost of a day with this row by any object, None if it is no list of deeds that can be done."""
    check_setup(setup)
    check_row(setup, row, LONGEST_KNOWN)
    if not (isinstance(thing, list) and len(thing) == len(row)):
        return None
    start = EMPTY_START
    total = 0
    for comers, deeds in zip(row, thing):
        line, singles, away = come_in(setup, start[0], start[1], comers)
        done = beat_by_deeds(setup, ("seat", line, singles, start[2], setup[0]), deeds)
        if done is None:
            return None
        start, cost = done
        total += cost + away_cost(setup, away)
    return total + end_cost(setup, start)


def beat_by_deeds(setup, view, thing):
    """The tuple (start, cost) behind a beat by any object, None if it is no tuple of deeds up to rest."""
    if not isinstance(thing, tuple):
        return None
    total = 0
    for deed in thing:
        # Behind rest no view is left, so that a further deed cannot be done.
        if len(view) == 3 or deed not in deeds_at(view):
            return None
        view, cost = deed_cost(setup, view, deed)
        total += cost
    return (view, total) if len(view) == 3 else None


def rule_cost(setup, rule, row):
    """The cost of a day with a row by a rule: its bills and the day's end."""
    standing, bills = run_house(setup, rule, row)
    return sum([bill_count(setup, "cost", bill) for bill in bills]) + end_cost(setup, standing[:3])


def day_regret(setup, rule, row):
    """By how much a day with a row costs more by a rule than if all of it were known ahead."""
    check_setup(setup)
    check_rule(rule)
    check_row(setup, row, LONGEST_KNOWN)
    return rule_cost(setup, rule, row) - least_known(setup, row)


def regrets(setup, rule, beats):
    """The list of (day_regret, row), for all rows of so many beats as lists compare."""
    rows = [(row_at(setup, indexes), cost) for indexes, cost in known_costs(setup, beats).items()]
    return [(rule_cost(setup, rule, row) - cost, row) for row, cost in rows]


def check_regret(setup, rule, beats):
    """Raise BadSetup, BadRule or BadCount for what is no setup, no rule, or no number of beats."""
    check_setup(setup)
    check_rule(rule)
    check_count(beats, 1, MOST_REGRET_BEATS)


def worst_regret(setup, rule, beats):
    """The greatest day_regret of a row of so many beats."""
    check_regret(setup, rule, beats)
    return max([cost for cost, _ in regrets(setup, rule, beats)])


def worst_regret_row(setup, rule, beats):
    """The first row of so many beats, as lists compare, with the greatest day_regret."""
    check_regret(setup, rule, beats)
    found = regrets(setup, rule, beats)
    worst = max([cost for cost, _ in found])
    return [row for cost, row in found if cost == worst][0]
