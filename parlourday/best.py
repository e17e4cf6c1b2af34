"""Ways of the house against all comers: what the best ones hold, and papers that show it."""

from parlourday.contests import held_entries, turned_contest, weighed_moves
from parlourday.cycles import greatest_mean
from parlourday.energy import least_needs
from parlourday.errors import BadRule, BadView, BadWhat, TooMany
from parlourday.house import check_rule, counted_web, house_table
from parlourday.longrun import long_mean
from parlourday.plain import check_count, check_fraction, fraction_sum, is_firm, is_whole, turned_fraction
from parlourday.setups import check_seats, check_setup, comers_of, is_comers
from parlourday.strict import strict_mean
from parlourday.tubs import check_tubs
from parlourday.views import EMPTY_START, behind_deed, deeds_at, first_views, is_view_form
from parlourday.ways import FIRST, MOST_VIEWS, free_contest, half_mean, mean_from, seat_moves, tub_moves
from parlourday.waysteps import guests_hold, least_steps

COST_WORDS = ("empty", "away", "unserved", "melted")
MOST_STEPS = 60


def views_met(setup):
    """The ascending list of all views to which deeds and comers can lead."""
    check_setup(setup)
    return sorted(views_of(free_contest(setup)))


def views_of(contest):
    """The list of the views of a contest of all deeds."""
    return [place for place in contest[0] if len(place) == 5]


def best_mean(setup):
    """The least fraction to which some way can hold the greatest mean of the cost."""
    check_setup(setup)
    return mean_from(setup, free_contest(setup), FIRST)


def best_way(setup):
    """A house way for best_mean: the ascending list of its entries (view, deed, number)."""
    check_setup(setup)
    contest = free_contest(setup)
    return sorted([
        (view, deeds_at(view)[index], need)
        for view, index, need in held_entries(contest, mean_from(setup, contest, FIRST))
    ])


def worst_guests(setup):
    """A guests' way for best_mean: the ascending list of its entries (standing, comers, number)."""
    check_setup(setup)
    contest = free_contest(setup)
    mean = mean_from(setup, contest, FIRST)
    coming = comers_of(setup)
    return sorted([
        (start, coming[index], -need)
        for start, index, need in held_entries(turned_contest(contest), turned_fraction(mean))
    ])


def best_way_holds(setup, fraction, thing):
    """Whether any object is a house way for a fraction."""
    check_setup(setup)
    check_fraction(fraction)
    views, _, _ = free_contest(setup)
    if not isinstance(thing, list):
        return False
    numbers = {}
    for entry in thing:
        if not is_way_entry(entry, views) or entry[0] in numbers:
            return False
        numbers[entry[0]] = entry[2]
    if not all([view in numbers for _, view in first_views(setup)]):
        return False
    return all([deed_holds(setup, fraction, numbers, view, deed) for view, deed, _ in thing])


def is_way_entry(thing, views):
    """Whether an object is (view, deed, number) with one of these views and a deed that can be done."""
    if not (isinstance(thing, tuple) and len(thing) == 3 and is_view_form(thing[0]) and thing[0] in views):
        return False
    return thing[1] in deeds_at(thing[0]) and is_whole(thing[2])


def deed_holds(setup, fraction, numbers, view, deed):
    """Whether the number of a view is enough for a deed, by the numbers of the views behind it."""
    above, below = fraction
    taken = above if deed == "rest" else 0
    for cost, further in behind_deed(setup, view, deed):
        if further not in numbers or numbers[view] < below * cost - taken + numbers[further]:
            return False
    return True


def worst_guests_hold(setup, fraction, thing):
    """Whether any object is a guests' way for a fraction."""
    check_setup(setup)
    check_fraction(fraction)
    contest = free_contest(setup)
    if not isinstance(thing, list):
        return False
    numbers = {}
    for entry in thing:
        if not is_guests_entry(setup, entry, contest[0]) or entry[0] in numbers:
            return False
        numbers[entry[0]] = entry[2]
    indexes = {comers: index for index, comers in enumerate(comers_of(setup))}
    chosen = [(start, indexes[comers]) for start, comers, _ in thing]
    return EMPTY_START in numbers and guests_hold(contest, fraction, numbers, chosen)


def is_guests_entry(setup, thing, starts):
    """Whether an object is (standing, comers, number) with one of these standings at a beat's beginning."""
    if not (isinstance(thing, tuple) and len(thing) == 3 and is_firm(thing[0], 3) and thing[0] in starts):
        return False
    return is_comers(setup, thing[1]) and is_whole(thing[2])


def best_tubs(setup, seats):
    """The least fraction to which some way of opening tubs can hold the cost, a seat rule filling the bench."""
    check_setup(setup)
    check_seats(seats)
    return half_mean(setup, lambda place: tub_moves(setup, seats, place))


def best_seats(setup, tubs):
    """The least fraction to which some way of seating can hold the cost, a tub rule opening the tubs."""
    check_setup(setup)
    check_tubs(tubs)
    return half_mean(setup, lambda place: seat_moves(setup, tubs, place))


def regret(setup, rule):
    """The fraction by which the mean of the cost by a rule is above best_mean."""
    check_setup(setup)
    check_rule(rule)
    mean = long_mean(setup, rule, "cost")
    return fraction_sum(mean, turned_fraction(mean_from(setup, free_contest(setup), FIRST)))


def rule_way(setup, rule):
    """Whether the deeds of a rule without moods are those of some house way for best_mean."""
    check_setup(setup)
    check_rule(rule)
    contest = free_contest(setup)
    if not all([row[0] == 0 and row[6] == 0 for half in rule for row in half]):
        raise BadRule("a way sees no moods: all moods and afters have to be 0")
    # Numbers for its deeds are there exactly if no ring that comes by them has a greater mean.
    mean = greatest_mean(counted_web(setup, house_table(setup, rule, None), "cost"))
    return mean == mean_from(setup, contest, FIRST)


def contest_at(setup, view):
    """The contest of all deeds, after a look at whether a view can come: BadView, and then TooMany."""
    contest = free_contest(setup, None)
    if not (is_view_form(view) and view in contest[0]):
        raise BadView("a view is one of those that deeds and comers can lead to")
    if len(views_of(contest)) > MOST_VIEWS:
        raise TooMany("more than three hundred views can come")
    return contest


def best_from(setup, view):
    """The least fraction to which some way can hold the greatest mean of the cost from a view on."""
    check_setup(setup)
    contest = contest_at(setup, view)
    return mean_from(setup, contest, contest[0][view])


def kept_deeds(setup, view):
    """The list of the deeds behind which some way can still hold best_from of a view."""
    check_setup(setup)
    contest = contest_at(setup, view)
    places, owned, moves = contest
    number = places[view]
    needs, _ = least_needs(owned, weighed_moves(moves, mean_from(setup, contest, number)))
    return [deed for deed, move in zip(deeds_at(view), moves[number]) if needs[move[2]] is not None]


def best_without(setup, what):
    """The least fraction to which some way can hold the cost by which the number of a word is ever 0, or None."""
    check_setup(setup)
    if what not in COST_WORDS:
        raise BadWhat("a way can do without empty, away, unserved or melted")
    return strict_mean(setup, free_contest(setup), what)


def best_steps(setup, count):
    """The least cost of so many beats from the empty house on that some way can hold, whatever the comers."""
    check_setup(setup)
    check_count(count, 0, MOST_STEPS)
    return least_steps(free_contest(setup), count)
