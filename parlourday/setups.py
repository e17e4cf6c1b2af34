"""Setups of a parlour, the comers of a beat, and the rules of the halves."""

from parlourday.errors import BadAsking, BadRow, BadSeats, BadSetup, NotDeaf
from parlourday.plain import fault_in, is_pair, is_whole, is_whole_in

MOST_SEATS = 4
MOST_PORTIONS = 4
MOST_LIFE = 3
MOST_PRICE = 5
MOST_RULE_ROWS = 6
LONGEST_ROW = 200
SEAT_DEEDS = ("group", "single", "go")
# Where a row of either rule tells what it hears of the other half, and what it has there if it is deaf.
HEARD = 4
DEAF = (0, 9)


def is_setup(thing):
    """Whether any object is a setup."""
    if not (isinstance(thing, tuple) and len(thing) == 7):
        return False
    seats, sizes, rooms, comers, kinds, life, prices = thing
    return (
        is_whole_in(seats, 1, MOST_SEATS)
        and is_choice(sizes, seats)
        and is_pair(rooms) and is_whole_in(rooms[0], 1, 2) and is_whole_in(rooms[1], 0, 2)
        and is_pair(comers) and is_whole_in(comers[0], 0, 1) and is_whole_in(comers[1], 0, 2)
        and is_choice(kinds, MOST_PORTIONS)
        and is_whole_in(life, 1, MOST_LIFE)
        and isinstance(prices, tuple) and len(prices) == 4
        and all([is_whole_in(price, 0, MOST_PRICE) for price in prices])
    )


def is_choice(thing, most):
    """Whether an object is an ascending tuple of one or two integers from 1 on."""
    if not (isinstance(thing, tuple) and 1 <= len(thing) <= 2):
        return False
    return all([is_whole_in(part, 1, most) for part in thing]) and (len(thing) == 1 or thing[0] < thing[1])


def check_setup(thing):
    """Raise BadSetup for what is no setup."""
    if not is_setup(thing):
        raise BadSetup("a setup is a tuple of seats, sizes, rooms, comers, kinds, life and prices")


def all_comers(setup):
    """The ascending list of all comers that a beat of the setup can have."""
    check_setup(setup)
    return comers_of(setup)


def comers_of(setup):
    """The ascending list of all comers, of what is known to be a setup."""
    groups = [()] + [(size,) for size in setup[1] if setup[3][0] > 0]
    return [(coming, singles) for coming in groups for singles in range(setup[3][1] + 1)]


def is_comers(setup, thing):
    """Whether any object is comers of a setup."""
    if not (is_pair(thing) and isinstance(thing[0], tuple) and is_whole_in(thing[1], 0, setup[3][1])):
        return False
    return len(thing[0]) <= setup[3][0] and all([is_whole(size) and size in setup[1] for size in thing[0]])


def row_at(setup, indexes):
    """The row of the comers with these indexes in all_comers, None for None."""
    if indexes is None:
        return None
    coming = comers_of(setup)
    return [coming[index] for index in indexes]


def is_row_of(setup, thing, most):
    """Whether any object is a row of comers of at most so many beats."""
    return fault_in(thing, lambda entry: is_comers(setup, entry), most) is None


def check_row(setup, thing, most=LONGEST_ROW):
    """Raise BadRow for what is no row of comers of at most so many beats."""
    fault = fault_in(thing, lambda entry: is_comers(setup, entry), most)
    if fault is not None:
        raise BadRow(fault)


def check_asking(setup, thing):
    """Raise BadAsking for what is no asking of a setup."""
    fault = fault_in(thing, lambda entry: is_whole_in(entry, 0, setup[0]), LONGEST_ROW)
    if fault is not None:
        raise BadAsking(fault)


def is_half(thing, deeds):
    """Whether any object is a half's rule with these deeds."""
    if not (isinstance(thing, tuple) and len(thing) <= MOST_RULE_ROWS):
        return False
    return all([is_rule_row(row, deeds) for row in thing])


def is_rule_row(thing, deeds):
    """Whether an object is a row of a half's rule with these deeds."""
    if not (isinstance(thing, tuple) and len(thing) == 7):
        return False
    if not (is_whole_in(thing[0], 0, 2) and thing[5] in deeds and is_whole_in(thing[6], 0, 2)):
        return False
    return all([is_span(part) for part in thing[1:5]])


def is_span(thing):
    """Whether an object is a tuple (low, high) of a row of a rule."""
    return is_pair(thing) and is_whole_in(thing[0], 0, 9) and is_whole_in(thing[1], 0, 9) and thing[0] <= thing[1]


def is_seats(thing):
    """Whether any object is a seat rule."""
    return is_half(thing, SEAT_DEEDS)


def check_seats(thing):
    """Raise BadSeats for what is no seat rule."""
    if not is_seats(thing):
        raise BadSeats("a seat rule is a tuple of rows (mood, front, left, singles, open, deed, after)")


def is_deaf(rule):
    """Whether a half's rule does not look at the other half."""
    return all([row[HEARD] == DEAF for row in rule])


def check_deaf(rule):
    """Raise NotDeaf for a half's rule that looks at the other half."""
    if not is_deaf(rule):
        raise NotDeaf("the rule looks at the other half")
