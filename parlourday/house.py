"""The house: beats of both halves, and what they are billed."""

from parlourday.bench import bench_beat, seated
from parlourday.cellar import portions_open, tub_beat, tubs_cost
from parlourday.errors import BadBill, BadRule, BadWhat
from parlourday.plain import is_pair, is_whole, is_whole_in
from parlourday.setups import check_row, check_setup, comers_of, is_seats
from parlourday.tables import table_of, table_web, used_in
from parlourday.tubs import is_tubs
from parlourday.webs import MOST_NODES

EMPTY_HOUSE = ((), 0, (), (0, 0))
HOUSE_WORDS = ("empty", "away", "unserved", "melted", "served", "seated", "cost")
MOST_STANDINGS = 600


def is_rule(thing):
    """Whether any object is a rule of the house."""
    return is_pair(thing) and is_seats(thing[0]) and is_tubs(thing[1])


def check_rule(thing):
    """Raise BadRule for what is no rule of the house."""
    if not is_rule(thing):
        raise BadRule("a rule of the house is a tuple of a seat rule and a tub rule")


def check_what(thing):
    """Raise BadWhat for what is none of the words of what is counted of a bill."""
    if thing not in HOUSE_WORDS:
        raise BadWhat("of a bill empty, away, unserved, melted, served, seated or cost is counted")


def house_beat(setup, rule, standing, comers):
    """The tuple (standing, bill, used) of a beat; used has the lists of the rows of both halves carried out."""
    line, singles, tubs, moods = standing
    seats_left, told, seat_rows = bench_beat(setup, rule[0], (line, singles, moods[0]), comers, portions_open(tubs))
    waiting = len(seats_left[0]) + seats_left[1]
    tubs_left, word, tub_rows = tub_beat(setup, rule[1], (tubs, moods[1]), seated(told[0]), waiting)
    after = (seats_left[0], seats_left[1], tubs_left[0], (seats_left[2], tubs_left[1]))
    return (after, told + word, (seat_rows, tub_rows))


def house_table(setup, rule, most):
    """The table of the beats of a rule, by comers; TooMany if there are more than most standings."""
    coming = comers_of(setup)
    return table_of(
        EMPTY_HOUSE, lambda standing: [house_beat(setup, rule, standing, comers) for comers in coming], most
    )


def run_house(setup, rule, row, standing=EMPTY_HOUSE):
    """The tuple (standing, bills) of the standing after a row and the list of the bills of its beats."""
    bills = []
    for comers in row:
        standing, bill, _ = house_beat(setup, rule, standing, comers)
        bills.append(bill)
    return (standing, bills)


def check_house_row(setup, rule, row):
    """Raise BadSetup, BadRule or BadRow for what is no setup, rule or row."""
    check_setup(setup)
    check_rule(rule)
    check_row(setup, row)


def bills_of(setup, rule, row):
    """The list of the bills of the beats of a row."""
    check_house_row(setup, rule, row)
    _, bills = run_house(setup, rule, row)
    return bills


def house_after(setup, rule, row):
    """The standing of the house after a row."""
    check_house_row(setup, rule, row)
    standing, _ = run_house(setup, rule, row)
    return standing


def house_met(setup, rule):
    """The ascending list of the standings after all rows."""
    check_setup(setup)
    check_rule(rule)
    return list(house_table(setup, rule, MOST_STANDINGS))


def is_deed(setup, thing):
    """Whether an object is a deed of the bench, with who sat."""
    if not (is_pair(thing) and is_whole(thing[1])):
        return False
    return (thing[0] == "group" and thing[1] in setup[1]) or (thing[0] == "single" and thing[1] == 1)


def is_bill(setup, thing):
    """Whether any object is a bill of a setup, judged by itself."""
    if not (isinstance(thing, tuple) and len(thing) == 7):
        return False
    deeds, empty, away, opened, served, unserved, melted = thing
    if not (isinstance(deeds, tuple) and all([is_deed(setup, deed) for deed in deeds])):
        return False
    sat = seated(deeds)
    if sat > setup[0] or not (is_whole(empty) and empty in (0, setup[0] - sat)):
        return False
    if not (is_whole_in(served, 0, sat) and is_whole(unserved) and served + unserved == sat):
        return False
    kinds = setup[4]
    return (
        is_whole_in(away, 0, setup[3][0] * setup[1][-1] + setup[3][1])
        and isinstance(opened, tuple) and len(opened) <= 2
        and all([is_whole(portions) and portions in kinds for portions in opened])
        and is_whole_in(melted, 0, 0 if unserved > 0 else 2 * kinds[-1])
    )


def count_of(setup, what, bill):
    """What is counted of a bill."""
    check_setup(setup)
    check_what(what)
    if not is_bill(setup, bill):
        raise BadBill("a bill is a tuple (deeds, empty, away, opened, served, unserved, melted)")
    return bill_count(setup, what, bill)


def bill_count(setup, what, bill):
    """What is counted of what is known to be a bill."""
    deeds, empty, away, _, served, unserved, melted = bill
    if what == "cost":
        return setup[6][0] * empty + tubs_cost(setup, unserved, melted) + setup[6][3] * away
    if what == "seated":
        return seated(deeds)
    counts = {"empty": empty, "away": away, "unserved": unserved, "melted": melted, "served": served}
    return counts[what]


def totals_of(setup, rule, row):
    """The tuple of the seven sums of the bills of a row, in the order of the words."""
    check_house_row(setup, rule, row)
    _, bills = run_house(setup, rule, row)
    return bill_totals(setup, bills)


def bill_totals(setup, bills):
    """The tuple of the seven sums of bills, in the order of the words."""
    return tuple([sum([bill_count(setup, what, bill) for bill in bills]) for what in HOUSE_WORDS])


def house_web(setup, rule, what):
    """The web of the standings, with the weight of what is counted."""
    check_setup(setup)
    check_rule(rule)
    check_what(what)
    return counted_web(setup, house_table(setup, rule, MOST_NODES), what)


def counted_web(setup, table, what):
    """The web of a table of the house, with the weight of what is counted."""
    return table_web(table, lambda beat: bill_count(setup, what, beat[1]))


def bills_met(setup, rule):
    """The ascending list, without duplicates, of all bills that some beat of some row has."""
    check_setup(setup)
    check_rule(rule)
    table = house_table(setup, rule, MOST_STANDINGS)
    return sorted(set([bill for beats in table.values() for _, bill, _ in beats]))


def idle_rows(setup, rule):
    """The tuple of the ascending lists of the rows of the seat rule, and of the tub rule, never carried out."""
    check_setup(setup)
    check_rule(rule)
    used = used_rows(setup, rule)
    return tuple([
        [index for index in range(len(half)) if index not in carried]
        for half, carried in zip(rule, used)
    ])


def used_rows(setup, rule):
    """The tuple of the ascending lists of the rows of both halves that some row of comers carries out."""
    table = house_table(setup, rule, MOST_STANDINGS)
    seat_rows = used_in(table, lambda beat: beat[2][0])
    tub_rows = used_in(table, lambda beat: beat[2][1])
    return (seat_rows, tub_rows)


def without_idle(setup, rule):
    """The rule without the rows that no row of comers ever carries out."""
    check_setup(setup)
    check_rule(rule)
    used = used_rows(setup, rule)
    return tuple([tuple([half[index] for index in carried]) for half, carried in zip(rule, used)])
