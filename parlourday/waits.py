"""How long guests wait, and which deaf seat rules tell the same."""

from parlourday.bench import NOBODY, seated
from parlourday.endless import endless_ring, endless_start, longest_stay, ring_is_endless
from parlourday.errors import BadWhat
from parlourday.plain import check_count
from parlourday.seats import check_deaf_seats, seats_table
from parlourday.setups import check_asking, check_deaf, check_seats, check_setup, row_at
from parlourday.sums import line_ahead, turned
from parlourday.tables import classes_of, first_beat, first_with, pair_table, table_web

MOST_CURVE_BEATS = 40
WAITING_KINDS = ("group", "single")


def seated_curve(setup, seats, count):
    """The list, for 0 to so many beats next to one another, of how many sit in them: (least, greatest)."""
    check_setup(setup)
    check_seats(seats)
    check_count(count, 0, MOST_CURVE_BEATS)
    check_deaf(seats)
    web = table_web(seats_table(setup, seats), lambda beat: seated(beat[1][0]))
    most = [0] * len(web)
    least = [0] * len(web)
    curve = [(0, 0)]
    for _ in range(count):
        most = line_ahead(web, most)
        least = line_ahead(turned(web), least)
        curve.append((-max(least), max(most)))
    return curve


def longest_wait(setup, seats):
    """The tuple of the most beats at whose ends a group, and a single, that found room can still wait.

    None for one that has no greatest.
    """
    check_deaf_seats(setup, seats)
    table = seats_table(setup, seats)
    return tuple([longest_stay(setup, table, what) for what in WAITING_KINDS])


def check_waiting(setup, seats, what):
    """Raise the errors of what asks for a kind of those who wait."""
    check_setup(setup)
    check_seats(seats)
    if what not in WAITING_KINDS:
        raise BadWhat("those who wait are a group or a single")
    check_deaf(seats)


def wait_ring(setup, seats, what):
    """The tuple (ahead, round, place) of rows by which one of a kind waits for ever, None if none does."""
    check_waiting(setup, seats, what)
    table = seats_table(setup, seats)
    found = endless_start(setup, table, what)
    if found is None:
        return None
    endless, start = found
    ahead, again, place = endless_ring(table, endless, start)
    return (row_at(setup, ahead), row_at(setup, again), place)


def wait_ring_holds(setup, seats, what, thing):
    """Whether any object is rows and a beat by which one of a kind waits for ever."""
    check_waiting(setup, seats, what)
    return ring_is_endless(setup, seats_table(setup, seats), what, thing)


def quiet_beats(setup, seats):
    """The least number of beats without comers behind which nobody waits, None if there is none."""
    check_deaf_seats(setup, seats)
    table = seats_table(setup, seats)
    places = list(table)
    for count in range(len(table) + 1):
        if not any([line or singles > 0 for line, singles, _ in places]):
            return count
        # The first of all comers are nobody.
        places = [table[place][0][0] for place in places]
    return None


def seats_apart(setup, seats, other):
    """The first shortest row of which two rules do not tell the same, None if there is none."""
    check_setup(setup)
    check_seats(seats)
    check_seats(other)
    check_deaf(seats)
    check_deaf(other)
    return row_apart(setup, seats, other)


def row_apart(setup, seats, other):
    """The first shortest row that tells two deaf rules apart."""
    table = pair_table(seats_table(setup, seats), NOBODY, seats_table(setup, other), NOBODY)
    found = first_beat(table, (NOBODY, NOBODY), lambda beat: beat[1][1] != beat[2][1])
    return row_at(setup, found)


def seats_classes(setup, seats):
    """The ascending list of the ascending lists of standings that no row tells apart."""
    check_deaf_seats(setup, seats)
    return classes_of(seats_table(setup, seats))


def needless_rows(setup, seats):
    """The ascending list of the indexes of the rows of which each, taken out alone, changes nothing told."""
    check_deaf_seats(setup, seats)
    return [index for index in range(len(seats)) if row_apart(setup, seats, without_row(seats, index)) is None]


def without_row(rule, index):
    """A half's rule without one of its rows."""
    return rule[:index] + rule[index + 1:]


def lean_seats(setup, seats):
    """The rule from which the last needless row is taken out, again and again, until there is none."""
    check_deaf_seats(setup, seats)
    lean = seats
    index = len(lean) - 1
    while index >= 0:
        fewer = without_row(lean, index)
        if row_apart(setup, lean, fewer) is None:
            # A row that was needed may be needless now.
            lean = fewer
            index = len(lean)
        index -= 1
    return lean


def row_asking(setup, seats, asking):
    """The first row at each of whose beats just so many sit as an asking tells, None if there is none."""
    check_setup(setup)
    check_seats(seats)
    check_asking(setup, asking)
    check_deaf(seats)
    found = first_with(seats_table(setup, seats), NOBODY, asking, lambda beat: seated(beat[1][0]))
    return row_at(setup, found)
