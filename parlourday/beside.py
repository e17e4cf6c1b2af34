"""Two rules beside one another: what one costs more than the other one, and what the halves do to one another."""

from parlourday.cycles import greatest_mean
from parlourday.house import EMPTY_HOUSE, bill_count, check_rule, house_table
from parlourday.numbers import shortest_walk
from parlourday.plain import is_firm, is_whole
from parlourday.setups import DEAF, HEARD, check_seats, check_setup, row_at
from parlourday.sums import best_sums
from parlourday.tables import first_beat, pair_table, table_web
from parlourday.tubs import check_tubs
from parlourday.twins import (
    MOST_PAIRS, felt_beats, greatest_growth, growing_row, growth_web, standings_beside, twin_table,
)

BOTH_EMPTY = (((), 0, (), (0, 0)), ((), 0, (), (0, 0)))


def check_two_rules(setup, rule, other):
    """Raise BadSetup or BadRule for what is no setup, or for one of two that is no rule."""
    check_setup(setup)
    check_rule(rule)
    check_rule(other)


def rule_pairs(setup, rule, other):
    """The table of the pairs of standings of two rules after the same rows; TooMany if there are too many."""
    table = house_table(setup, rule, MOST_PAIRS)
    beside = table if other == rule else house_table(setup, other, MOST_PAIRS)
    return pair_table(table, EMPTY_HOUSE, beside, EMPTY_HOUSE, MOST_PAIRS)


def gap_of(setup, what, beat):
    """By how much what is counted of a beat of a pair is more for the first one."""
    return bill_count(setup, what, beat[1][1]) - bill_count(setup, what, beat[2][1])


def gap_web(setup, pairs, what):
    """The web of pairs, weighed by how much more is counted by the first rule."""
    return table_web(pairs, lambda beat: gap_of(setup, what, beat))


def row_unlike(setup, rule, other):
    """The first shortest row with unlike bills, None if there is none."""
    pairs = rule_pairs(setup, rule, other)
    return row_at(setup, first_beat(pairs, BOTH_EMPTY, lambda beat: beat[1][1] != beat[2][1]))


def alike(setup, rule, other):
    """None if every row has equal bills by both rules, else the first shortest row that does not."""
    check_two_rules(setup, rule, other)
    return row_unlike(setup, rule, other)


def greatest_gap(setup, rule, other):
    """The greatest that the cost of a row can be above that by the other rule, None if there is none greatest."""
    check_two_rules(setup, rule, other)
    return most_more(setup, rule_pairs(setup, rule, other), "cost")


def most_more(setup, pairs, what):
    """The greatest by which what is counted of a row can be more by the first rule, None if there is none."""
    sums = best_sums(gap_web(setup, pairs, what))
    return None if sums is None else sums[0]


def gap_row(setup, rule, other):
    """A shortest row with the greatest gap, None if there is none."""
    check_two_rules(setup, rule, other)
    web = gap_web(setup, rule_pairs(setup, rule, other), "cost")
    sums = best_sums(web)
    return None if sums is None else row_at(setup, shortest_walk(web, sums[0]))


def mean_gap(setup, rule, other):
    """The greatest mean of the cost less that by the other rule, in the long run."""
    check_two_rules(setup, rule, other)
    return greatest_mean(gap_web(setup, rule_pairs(setup, rule, other), "cost"))


def harm(setup, tubs, seats, other):
    """The tuple of the most that is unserved, and that melts, more by the first seat rule than by the other one."""
    check_setup(setup)
    check_tubs(tubs)
    check_seats(seats)
    check_seats(other)
    pairs = rule_pairs(setup, (seats, tubs), (other, tubs))
    return (most_more(setup, pairs, "unserved"), most_more(setup, pairs, "melted"))


def never_harms(setup, tubs, seats, other):
    """Whether in no row more is unserved, and in none more melts, by the first seat rule than by the other one."""
    return harm(setup, tubs, seats, other) == (0, 0)


def deaf_half(half):
    """A half's rule, made deaf."""
    return tuple([row[:HEARD] + (DEAF,) + row[HEARD + 1:] for row in half])


def deafened(rule):
    """The rule with both halves made deaf."""
    check_rule(rule)
    return (deaf_half(rule[0]), deaf_half(rule[1]))


def listens(setup, rule):
    """For each half the first shortest row whose bills change if it alone is made deaf, None if there is none."""
    check_setup(setup)
    check_rule(rule)
    seats, tubs = rule
    return (row_unlike(setup, rule, (deaf_half(seats), tubs)), row_unlike(setup, rule, (seats, deaf_half(tubs))))


def no_single_comes(setup):
    """Whether no single may come."""
    return setup[3][1] == 0


def one_more(setup, rule):
    """The greatest growth of the cost of a row by one single more, None if there is none, or none may come."""
    check_setup(setup)
    check_rule(rule)
    if no_single_comes(setup):
        return None
    return greatest_growth(growth_web(setup, twin_table(setup, standings_beside(setup, rule))))


def one_more_row(setup, rule):
    """The tuple (row, place) of a shortest row with this growth by one single more, None if none may come."""
    check_setup(setup)
    check_rule(rule)
    if no_single_comes(setup):
        return None
    table = standings_beside(setup, rule)
    return growing_row(setup, table, growth_web(setup, twin_table(setup, table)))


def felt_for(setup, rule):
    """The most beats behind that of one single more at whose end the standings still differ.

    None if there is no greatest number, or if no single may come.
    """
    check_setup(setup)
    check_rule(rule)
    if no_single_comes(setup):
        return None
    return felt_beats(twin_table(setup, standings_beside(setup, rule)))


def gap_paper(setup, rule, other):
    """The ascending list of (standing, other, number) that shows the greatest gap, None if there is none."""
    check_two_rules(setup, rule, other)
    pairs = rule_pairs(setup, rule, other)
    sums = best_sums(gap_web(setup, pairs, "cost"))
    return None if sums is None else [(pair[0], pair[1], number) for pair, number in zip(pairs, sums)]


def gap_paper_holds(setup, rule, other, most, thing):
    """Whether any object is a paper which shows that no gap is above an integer."""
    check_two_rules(setup, rule, other)
    pairs = rule_pairs(setup, rule, other)
    if not isinstance(thing, list):
        return False
    numbers = {}
    for entry in thing:
        if not is_gap_entry(entry, pairs) or entry[:2] in numbers:
            return False
        numbers[entry[:2]] = entry[2]
    if BOTH_EMPTY not in numbers or numbers[BOTH_EMPTY] > most:
        return False
    return all([gap_holds(setup, numbers, pair, pairs[pair]) for pair in numbers])


def is_gap_entry(thing, pairs):
    """Whether an object is (standing, other, number) of one of these pairs, the number from 0 on."""
    if not (isinstance(thing, tuple) and len(thing) == 3 and is_firm(thing[:2], 4) and thing[:2] in pairs):
        return False
    return is_whole(thing[2]) and thing[2] >= 0


def gap_holds(setup, numbers, pair, beats):
    """Whether the number of a pair is enough for its beats."""
    for beat in beats:
        if beat[0] not in numbers or gap_of(setup, "cost", beat) + numbers[beat[0]] > numbers[pair]:
            return False
    return True
