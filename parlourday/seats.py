"""The seats alone: what deaf seat rules do, whoever comes."""

from parlourday.bench import NOBODY, bench_beat, seated
from parlourday.errors import BadWhat
from parlourday.plain import check_count
from parlourday.setups import check_deaf, check_row, check_seats, check_setup, comers_of
from parlourday.tables import table_of, table_web

SEAT_WORDS = ("empty", "away", "seated", "cost")
MOST_ASKED_BEATS = 4


def check_deaf_seats(setup, seats):
    """Raise BadSetup, BadSeats or NotDeaf for what is no setup, or no deaf seat rule."""
    check_setup(setup)
    check_seats(seats)
    check_deaf(seats)


def seats_table(setup, seats):
    """The table of the beats (after, told, used) of a deaf seat rule, by comers."""
    coming = comers_of(setup)
    return table_of(NOBODY, lambda standing: [bench_beat(setup, seats, standing, comers, 0) for comers in coming])


def seats_of(setup, seats, row):
    """The list of what the seats tell of the beats of a row: tuples (deeds, empty, away)."""
    check_setup(setup)
    check_seats(seats)
    check_row(setup, row)
    check_deaf(seats)
    _, told = run_bench(setup, seats, row)
    return told


def seats_after(setup, seats, row):
    """The standing of the seats after a row."""
    check_setup(setup)
    check_seats(seats)
    check_row(setup, row)
    check_deaf(seats)
    standing, _ = run_bench(setup, seats, row)
    return standing


def run_bench(setup, seats, row):
    """The tuple (standing, told) of the standing after a row and the list of what its beats tell."""
    standing = NOBODY
    told = []
    for comers in row:
        standing, word, _ = bench_beat(setup, seats, standing, comers, 0)
        told.append(word)
    return (standing, told)


def seats_met(setup, seats):
    """The ascending list of the standings after all rows."""
    check_deaf_seats(setup, seats)
    return list(seats_table(setup, seats))


def seats_web(setup, seats, what):
    """The web of the standings, with the weight of what is counted."""
    check_setup(setup)
    check_seats(seats)
    if what not in SEAT_WORDS:
        raise BadWhat("of the seats empty, away, seated or cost is counted")
    check_deaf(seats)
    return table_web(seats_table(setup, seats), lambda beat: seats_count(setup, what, beat[1]))


def seats_count(setup, what, told):
    """What is counted of what the seats tell of a beat."""
    deeds, empty, away = told
    if what == "cost":
        return setup[6][0] * empty + setup[6][3] * away
    if what == "seated":
        return seated(deeds)
    return empty if what == "empty" else away


def asked_rows(setup, seats, count):
    """The ascending list of all tuples of how many sat at each of the first so many beats, of all rows."""
    check_setup(setup)
    check_seats(seats)
    check_count(count, 0, MOST_ASKED_BEATS)
    check_deaf(seats)
    table = seats_table(setup, seats)
    rows = {((), NOBODY): True}
    for _ in range(count):
        rows = {
            (asked + (seated(told[0]),), after): True
            for asked, standing in rows for after, told, _ in table[standing]
        }
    return sorted(set([asked for asked, _ in rows]))
