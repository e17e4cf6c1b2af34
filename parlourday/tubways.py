"""What becomes of tubs, which deaf tub rules tell the same, and the best that tubs alone can do."""

from parlourday.alone import (
    EMPTY, alone_contest, alone_entries, alone_mean, entry_holds, first_openings, known_costs,
    opening_table,
)
from parlourday.cellar import CLOSED, eaten_of, end_beat, open_tubs, tub_deeds
from parlourday.errors import BadOpenings
from parlourday.plain import check_fraction, fault_in, is_firm, is_whole, is_whole_in
from parlourday.setups import MOST_PORTIONS, check_asking, check_deaf, check_setup
from parlourday.tables import classes_of, first_beat, first_with, pair_table, used_in
from parlourday.tubs import check_deaf_tubs, check_tubs, tubs_table

MOST_PAIRS = 600
MOST_OPENINGS = 30


def tub_lives(setup, tubs, asking):
    """The list, in the order of opening, of a tuple (beat, portions, eaten, melted) for each tub opened."""
    check_setup(setup)
    check_tubs(tubs)
    check_asking(setup, asking)
    check_deaf(tubs)
    standing = CLOSED
    lives = []
    running = []
    for beat, asked in enumerate(asking):
        resting, opened, _ = open_tubs(setup, tubs, standing, asked, 0)
        for portions in opened:
            running.append(len(lives))
            lives.append((beat, portions, 0, 0))
        running = live_on(setup, resting[0], asked, running, lives)
        left, _, _ = end_beat(setup, resting[0], asked)
        standing = (left, resting[1])
    return lives


def live_on(setup, tubs, asked, running, lives):
    """Enter what is eaten and melts in lives, and list those of the running ones that go on.

    running has the places in lives of the tubs that are open.
    """
    further = []
    for place, (age, portions), gone in zip(running, tubs, eaten_of(tubs, asked)):
        beat, held, eaten, _ = lives[place]
        left = portions - gone
        last = age + 1 == setup[5]
        lives[place] = (beat, held, eaten + gone, left if last else 0)
        if left > 0 and not last:
            further.append(place)
    return further


def tubs_apart(setup, tubs, other):
    """The first shortest asking of which two rules do not tell the same, None if there is none."""
    check_setup(setup)
    check_tubs(tubs)
    check_tubs(other)
    check_deaf(tubs)
    check_deaf(other)
    table = pair_table(tubs_table(setup, tubs), CLOSED, tubs_table(setup, other), CLOSED, MOST_PAIRS)
    return first_beat(table, (CLOSED, CLOSED), lambda beat: beat[1][1] != beat[2][1])


def trimmed(setup, tubs):
    """The rule without the rows that are never carried out, whatever is asked."""
    check_deaf_tubs(setup, tubs)
    return tuple([tubs[index] for index in used_in(tubs_table(setup, tubs), lambda beat: beat[2])])


def tubs_classes(setup, tubs):
    """The ascending list of the ascending lists of standings that no asking tells apart."""
    check_deaf_tubs(setup, tubs)
    return classes_of(tubs_table(setup, tubs))


def is_opening(thing):
    """Whether an object is a tuple of at most two numbers of portions."""
    return isinstance(thing, tuple) and len(thing) <= 2 and all([is_whole_in(part, 1, MOST_PORTIONS) for part in thing])


def check_openings(setup, tubs, openings):
    """Raise the errors of what asks for askings behind openings."""
    check_setup(setup)
    check_tubs(tubs)
    if fault_in(openings, is_opening, MOST_OPENINGS) is not None:
        raise BadOpenings("openings are a list of at most thirty tuples of at most two numbers from 1 to 4")
    check_deaf(tubs)


def askings_counted(setup, tubs, openings):
    """How many askings, of as many beats, have just these openings."""
    check_openings(setup, tubs, openings)
    table = tubs_table(setup, tubs)
    counts = {CLOSED: 1}
    for opened in openings:
        further = {}
        for standing, count in counts.items():
            for after, told, _ in table[standing]:
                if told[0] == opened:
                    further[after] = further.get(after, 0) + count
        counts = further
    return sum(list(counts.values()))


def asking_back(setup, tubs, openings):
    """The first asking, as lists compare, that has just these openings, None if there is none."""
    check_openings(setup, tubs, openings)
    return first_with(tubs_table(setup, tubs), CLOSED, openings, lambda beat: beat[1][0])


def best_alone(setup):
    """The least fraction to which some way can hold the greatest mean of the tubs' cost."""
    check_setup(setup)
    return alone_mean(alone_contest(setup))


def alone_way(setup):
    """A tub way for best_alone: the ascending list of its entries (tubs, asked, deed, number)."""
    check_setup(setup)
    return alone_entries(setup)


def alone_way_holds(setup, fraction, thing):
    """Whether any object is a tub way for a fraction."""
    check_setup(setup)
    check_fraction(fraction)
    if not isinstance(thing, list):
        return False
    places, _, _ = alone_contest(setup)
    numbers = {}
    for entry in thing:
        if not is_entry(entry, places) or entry[:2] in numbers:
            return False
        numbers[entry[:2]] = entry[3]
    if not all([((), asked) in numbers for asked in range(setup[0] + 1)]):
        return False
    return all([entry_holds(setup, fraction, numbers, entry[:2], entry[2]) for entry in thing])


def is_entry(thing, places):
    """Whether an object is (tubs, asked, deed, number) with one of these places and a deed that can be done."""
    if not (isinstance(thing, tuple) and len(thing) == 4 and is_firm(thing[0], 2) and is_whole(thing[1])):
        return False
    return thing[:2] in places and thing[2] in tub_deeds(thing[0]) and is_whole(thing[3])


def asked_best(setup, asking):
    """The least cost of the tubs by any deeds for an asking that is known beforehand."""
    check_setup(setup)
    check_asking(setup, asking)
    return known_costs(opening_table(setup), asking)[-1][EMPTY[0]]


def best_openings(setup, asking):
    """The first list, as lists compare, of what is opened at each beat with asked_best."""
    check_setup(setup)
    check_asking(setup, asking)
    return first_openings(opening_table(setup), asking)
