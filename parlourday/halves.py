"""The halves of the house: what each one costs alone, what they do to one another, and what makes them safe."""

from parlourday.cycles import greatest_mean
from parlourday.house import EMPTY_HOUSE, check_rule, counted_web, house_table
from parlourday.longrun import long_ring
from parlourday.plain import fraction_sum, turned_fraction
from parlourday.seats import check_deaf_seats, seats_count, seats_table
from parlourday.bench import seated
from parlourday.setups import check_deaf, check_setup, row_at
from parlourday.subsets import first_words, set_table
from parlourday.tables import first_beat, table_web
from parlourday.tubs import MOST_OPEN_FOR, open_for, tubs_count, tubs_table
from parlourday.webs import MOST_NODES

UNSERVED = 5


def check_deaf_rule(setup, rule):
    """Raise BadSetup, BadRule or NotDeaf for what is no setup, or no rule of two deaf halves."""
    check_setup(setup)
    check_rule(rule)
    check_deaf(rule[0])
    check_deaf(rule[1])


def cost_means(setup, rule):
    """The tuple of the greatest means of the cost of the seats alone, of the tubs alone, and of the house."""
    house = counted_web(setup, house_table(setup, rule, MOST_NODES), "cost")
    seats = table_web(seats_table(setup, rule[0]), lambda beat: seats_count(setup, "cost", beat[1]))
    tubs = table_web(tubs_table(setup, rule[1]), lambda beat: tubs_count(setup, "cost", beat[1]))
    return tuple([greatest_mean(web) for web in (seats, tubs, house)])


def shortfall(setup, rule):
    """How far the mean of the house is below those of its halves together."""
    seats, tubs, house = cost_means(setup, rule)
    return fraction_sum(fraction_sum(seats, tubs), turned_fraction(house))


def halves(setup, rule):
    """The tuple of the greatest means of the cost of the seats alone, of the tubs alone, and of the house."""
    check_deaf_rule(setup, rule)
    return cost_means(setup, rule)


def short_of(setup, rule):
    """The fraction by which the mean of the house is less than those of its halves together."""
    check_deaf_rule(setup, rule)
    return shortfall(setup, rule)


def meeting(setup, rule):
    """A ring of the house with the mean of both halves together, None if there is none."""
    check_deaf_rule(setup, rule)
    return None if shortfall(setup, rule)[0] > 0 else long_ring(setup, rule, "cost")


def unsafe_row(setup, rule):
    """The first shortest row that leaves somebody unserved, None if none does."""
    table = house_table(setup, rule, MOST_NODES)
    return row_at(setup, first_beat(table, EMPTY_HOUSE, lambda beat: beat[1][UNSERVED] > 0))


def safe(setup, rule):
    """None if no row leaves anybody unserved, else the first shortest one that does."""
    check_setup(setup)
    check_rule(rule)
    return unsafe_row(setup, rule)


def least_open(setup, seats):
    """The least number for which open_for of the lesser kind is safe for a seat rule, None if none is."""
    check_deaf_seats(setup, seats)
    for number in range(1, MOST_OPEN_FOR + 1):
        if unsafe_row(setup, (seats, open_for(setup, "small", number))) is None:
            return number
    return None


def first_unasked(setup, seats):
    """The first shortest asking that no row brings about, None if all can be."""
    check_deaf_seats(setup, seats)
    told = table_web(seats_table(setup, seats), lambda beat: seated(beat[1][0]))
    table = set_table(told, (0,))
    found = first_words(table, (0,), lambda members: missing_asked(setup, table, members) is not None)
    if found is None:
        return None
    asking, members = found
    return asking + [missing_asked(setup, table, members)]


def missing_asked(setup, table, members):
    """The least number of those who ask that no standing of a set brings about, None if all can be."""
    come = [asked for _, asked in table[members]]
    missing = [asked for asked in range(setup[0] + 1) if asked not in come]
    return missing[0] if missing else None


def reset_row(setup, rule):
    """The first shortest row that leads the house from all standings that are met to one, None if none does."""
    check_setup(setup)
    check_rule(rule)
    table = house_table(setup, rule, MOST_NODES)
    nodes = {standing: node for node, standing in enumerate(table)}
    told = [[(index, nodes[beat[0]]) for index, beat in enumerate(beats)] for beats in table.values()]
    everywhere = tuple(range(len(table)))
    found = first_words(set_table(told, everywhere), everywhere, lambda members: len(members) == 1)
    return None if found is None else row_at(setup, found[0])
