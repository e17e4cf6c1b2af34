"""The long run: means over endless rows of comers, and what shows them."""

from parlourday.corners import ring_corners
from parlourday.cycles import greatest_mean, greatest_means, greatest_ring
from parlourday.house import EMPTY_HOUSE, bill_count, check_rule, check_what, counted_web, house_table
from parlourday.numbers import turned_numbers, walk_by_lines
from parlourday.plain import check_count, check_fraction, is_firm, is_pair, is_whole, turned_fraction
from parlourday.setups import check_setup, comers_of, is_row_of, row_at
from parlourday.sums import best_sums, holds_up, lines_ahead, turned, weighed
from parlourday.webs import MOST_NODES

MOST_BEATS_AHEAD = 30
LONGEST_RING_ROW = 10000


def check_counted(setup, rule, what):
    """Raise BadSetup, BadRule or BadWhat for what is no setup, rule or word."""
    check_setup(setup)
    check_rule(rule)
    check_what(what)


def signed_web(setup, table, what, least):
    """The web of what is counted, with the other signs if the least is looked for."""
    web = counted_web(setup, table, what)
    return turned(web) if least else web


def signed(fraction, least):
    """A fraction of a signed web as it is told."""
    return turned_fraction(fraction) if least else fraction


def long_mean(setup, rule, what, *, least=False):
    """The greatest mean of what is counted, or the least one."""
    check_counted(setup, rule, what)
    table = house_table(setup, rule, MOST_NODES)
    return signed(greatest_mean(signed_web(setup, table, what, least)), least)


def long_ring(setup, rule, what, *, least=False):
    """A tuple (ahead, round) of rows of comers whose round has the greatest mean, or the least one."""
    check_counted(setup, rule, what)
    table = house_table(setup, rule, MOST_NODES)
    ahead, again = greatest_ring(signed_web(setup, table, what, least))
    return (row_at(setup, ahead), row_at(setup, again))


def long_ring_holds(setup, rule, what, fraction, thing):
    """Whether any object is a ring of rows of comers with a fraction as its mean."""
    check_counted(setup, rule, what)
    check_fraction(fraction)
    table = house_table(setup, rule, MOST_NODES)
    if not (is_pair(thing) and all([is_row_of(setup, row, LONGEST_RING_ROW) for row in thing])):
        return False
    ahead, again = thing
    start, _ = go_on(setup, table, EMPTY_HOUSE, ahead, what)
    end, total = go_on(setup, table, start, again, what)
    return len(again) > 0 and end == start and fraction[1] * total == fraction[0] * len(again)


def go_on(setup, table, standing, row, what):
    """The tuple (standing, sum) behind a row from a standing on, the sum being that of what is counted."""
    indexes = {comers: index for index, comers in enumerate(comers_of(setup))}
    total = 0
    for comers in row:
        standing, bill, _ = table[standing][indexes[comers]]
        total += bill_count(setup, what, bill)
    return (standing, total)


def long_paper(setup, rule, what, *, least=False):
    """The ascending list of (standing, number) which shows that no mean is above the greatest one.

    With least=True, that none is below the least one.
    """
    check_counted(setup, rule, what)
    table = house_table(setup, rule, MOST_NODES)
    web = signed_web(setup, table, what, least)
    numbers = best_sums(weighed(web, greatest_mean(web)))
    return list(zip(table, turned_numbers(numbers) if least else numbers))


def long_paper_holds(setup, rule, what, fraction, thing, *, least=False):
    """Whether any object is a house paper for a fraction."""
    check_counted(setup, rule, what)
    check_fraction(fraction)
    table = house_table(setup, rule, MOST_NODES)
    numbers = paper_numbers(table, thing)
    if numbers is None:
        return False
    gains = weighed(counted_web(setup, table, what), fraction)
    return holds_up(turned(gains), turned_numbers(numbers)) if least else holds_up(gains, numbers)


def paper_numbers(table, thing):
    """The tuple of the numbers of a paper, in the order of a table, None for what is no paper of its standings."""
    if not (isinstance(thing, list) and len(thing) == len(table)):
        return None
    numbers = {}
    for entry in thing:
        if not (is_pair(entry) and is_firm(entry[0], 3) and entry[0] in table and is_whole(entry[1])):
            return None
        numbers[entry[0]] = entry[1]
    if len(numbers) < len(table):
        return None
    return tuple([numbers[standing] for standing in table])


def most_after(setup, rule, what, beats, *, least=False):
    """The greatest that is counted in the first so many beats of a row, or the least."""
    check_counted(setup, rule, what)
    check_count(beats, 0, MOST_BEATS_AHEAD)
    web = signed_web(setup, house_table(setup, rule, MOST_NODES), what, least)
    most = lines_ahead(web, [0] * len(web), beats)[beats][0]
    return -most if least else most


def most_row(setup, rule, what, beats, *, least=False):
    """The first row of so many beats, as lists compare, in which the greatest is counted, or the least."""
    check_counted(setup, rule, what)
    check_count(beats, 0, MOST_BEATS_AHEAD)
    web = signed_web(setup, house_table(setup, rule, MOST_NODES), what, least)
    return row_at(setup, walk_by_lines(web, lines_ahead(web, [0] * len(web), beats), 0))


def long_from(setup, rule, what, *, least=False):
    """The ascending list of all (standing, fraction): the greatest mean of rows from it on, or the least one."""
    check_counted(setup, rule, what)
    table = house_table(setup, rule, MOST_NODES)
    means = greatest_means(signed_web(setup, table, what, least))
    return [(standing, signed(mean, least)) for standing, mean in zip(table, means)]


def mean_corners(setup, rule, what, other):
    """The list of the corners, against the clock, of the figure of the pairs of means of all rings."""
    check_counted(setup, rule, what)
    check_what(other)
    table = house_table(setup, rule, MOST_NODES)
    return ring_corners(counted_web(setup, table, what), counted_web(setup, table, other))
