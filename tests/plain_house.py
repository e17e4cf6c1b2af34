"""Plain searches over the house, to compare the program with. Nothing of the program is used here."""

from fractions import Fraction

from tests.plain_parlour import (
    ANY, EAGER, NO_SEATS, NO_THINGS, UNFAIR, changed_at, comers_of, house_beat, plain_web, sat, set_house,
    small_setups, some_seats, some_setups, some_tubs, turning_seats, turning_tubs,
)
from tests.plain_tubs import HEARING_TUBS, NO_TUBS, READY, SAVING

START = ((), 0, (), (0, 0))
WORDS = ["empty", "away", "unserved", "melted", "served", "seated", "cost"]
NO_WORDS = [None, True, 0, "", "Cost", "costs", b"cost", ("cost",), ["cost"], {}]
# The rule of the document's example.
RULE = (((0, (1, 2), ANY, ANY, ANY, "group", 0),), ((0, (1, 9), (0, 0), ANY, ANY, "small", 0),))
# groups sit only if portions are open; tubs are opened if somebody waits
BOTH_HEAR = (((0, ANY, ANY, ANY, (1, 9), "group", 0),), ((0, ANY, (0, 1), ANY, (1, 9), "great", 0),))
NO_RULES = NO_THINGS + [list(RULE), RULE[:1], RULE + ((),), (RULE[1], RULE[0])]
NO_RULES += [(rule, ()) for rule in NO_SEATS] + [((), rule) for rule in NO_TUBS]
NO_RULES = [rule for rule in NO_RULES if rule != ((), ())]

# Rules by which just so many standings are met.
MANY = (4, (1, 2), (2, 2), (1, 2), (1, 4), 3, (5, 4, 3, 2))
FEW_SEATS, FEW_TUBS = turning_seats(201, 60, deaf=False), turning_tubs(202, 60, deaf=False)
MANY_SEATS, MANY_TUBS = turning_seats(301, 1500), turning_tubs(302, 1500)
MEET_120 = (MANY, (FEW_SEATS[0], FEW_TUBS[9]))
MEET_121 = (MANY, (FEW_SEATS[23], FEW_TUBS[3]))
MEET_600 = (MANY, (MANY_SEATS[1005], MANY_TUBS[47]))
MEET_601 = (changed_at(MANY, (4,), (2, 4)), (MANY_SEATS[888], MANY_TUBS[1495]))
MEET_MORE = (MANY, (MANY_SEATS[1220], MANY_TUBS[1432]))


def some_houses(seed, count):
    """Setups with rules of all kinds."""
    seats = some_seats(seed, count // 2, deaf=False) + turning_seats(seed + 1, count - count // 2, deaf=False)
    tubs = turning_tubs(seed + 2, count // 2, deaf=False) + some_tubs(seed + 3, count - count // 2, deaf=False)
    return [(setup, rule) for setup, rule in zip(some_setups(seed + 4, count), zip(seats, tubs))]


def small_houses(seed, count, most=9):
    """Setups and rules by which a few standings are met, but more than two, with few comers."""
    found = []
    tried = 40 * count
    seats = turning_seats(seed, tried // 2, deaf=False) + [EAGER, UNFAIR] * tried
    tubs = turning_tubs(seed + 1, tried // 2, deaf=False) + [SAVING, READY, HEARING_TUBS] * tried
    for setup, rule in zip(small_setups(seed + 2, tried), zip(seats, tubs)):
        if 2 < len(met_house(setup, rule, most)) <= most:
            found.append((setup, rule))
    return found[:count]


def met_house(setup, rule, most=None):
    """All standings that are met; perhaps not all if there are more than most."""
    known, fresh = {START: True}, [START]
    while fresh and (most is None or len(known) <= most):
        place = fresh.pop()
        for comers in comers_of(setup):
            after, _ = house_beat(setup, rule, place, comers)
            if after not in known:
                known[after] = True
                fresh.append(after)
    return sorted(known)


def used_house(setup, rule):
    """The lists of the rows of both halves that are carried out."""
    used = [set(), set()]
    for place in met_house(setup, rule):
        for comers in comers_of(setup):
            house = set_house(setup, rule[0], rule[1], place)
            house.tell(comers)
            used = [used[half] | house.used[half] for half in (0, 1)]
    return [sorted(rows) for rows in used]


def plain_count(setup, what, bill):
    deeds, empty, away, opened, served, unserved, melted = bill
    prices = setup[6]
    return {
        "empty": empty, "away": away, "unserved": unserved, "melted": melted, "served": served, "seated": sat(bill),
        "cost": empty * prices[0] + melted * prices[1] + unserved * prices[2] + away * prices[3],
    }[what]


def plain_house_web(setup, rule, what):
    return plain_web(
        met_house(setup, rule), lambda place: [house_beat(setup, rule, place, comers) for comers in comers_of(setup)],
        lambda bill: plain_count(setup, what, bill),
    )


def ring_means(web, beside):
    """The pairs of means of all rounds without a node twice, by the weights of two webs."""
    found = set()
    for first in range(len(web)):
        paths = [(first, 0, 0, [first])]
        while paths:
            node, total, twin, path = paths.pop()
            steps = {(weight, other, target) for (weight, target), (other, _) in zip(web[node], beside[node])}
            for weight, other, target in steps:
                if target == first:
                    found.add((Fraction(total + weight, len(path)), Fraction(twin + other, len(path))))
                elif target > first and target not in path:
                    paths.append((target, total + weight, twin + other, path + [target]))
    return found


def plain_corners(points):
    """The corners of points against the clock: those that are not in a triangle, or on a line, of others."""
    corners = [point for point in points if is_corner(point, [other for other in points if other != point])]
    first = min(corners)
    found, left = [first], [point for point in corners if point != first]
    while left:
        last = found[-1]
        # the next one is that from which all others lie to the left
        after = [
            point for point in left
            if all(turn(last, point, other) > 0 for other in corners if other not in (last, point))
        ]
        found.append(after[0])
        left.remove(after[0])
    return found


def turn(point, middle, end):
    ahead = (middle[0] - point[0]) * (end[1] - point[1])
    return ahead - (middle[1] - point[1]) * (end[0] - point[0])


def is_corner(point, others):
    """Whether all others lie within less than half a turn around a point."""
    if not others:
        return True
    steps = [(other[0] - point[0], other[1] - point[1]) for other in others]
    for step in steps:
        turns = [step[0] * other[1] - step[1] * other[0] for other in steps]
        ahead = [step[0] * other[0] + step[1] * other[1] for other in steps]
        if all(found > 0 or found == 0 and along > 0 for found, along in zip(turns, ahead)):
            return True
    return False
