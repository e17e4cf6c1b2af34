"""Those who found room and wait on: how long, and whether for ever.

A wait is a tuple (standing, ahead): how many of its kind are ahead of one that waits at a beat's end.
"""

from parlourday.bench import NOBODY, seated_kind
from parlourday.graphs import walk_back
from parlourday.plain import is_whole_in
from parlourday.setups import comers_of, is_row_of
from parlourday.tables import steps_of

LONGEST_RING_ROW = 10000


def waiting_kind(standing, what):
    """How many groups, or singles, wait."""
    return len(standing[0]) if what == "group" else standing[1]


def finds_room(setup, standing, comers, what):
    """Whether one of a kind comes and finds room."""
    if what == "group":
        return len(comers[0]) > 0 and len(standing[0]) < setup[2][0]
    return comers[1] > 0 and standing[1] < setup[2][1]


def first_wait(setup, standing, comers, after, what):
    """The wait of the last one of a kind that found room at a beat, None if none did or none waits on."""
    behind = waiting_kind(after, what) - 1
    return (after, behind) if finds_room(setup, standing, comers, what) and behind >= 0 else None


def next_wait(wait, beat, what):
    """The wait after a further beat, None for one that sits at it."""
    left = wait[1] - seated_kind(beat[1][0], what)
    return (beat[0], left) if left >= 0 else None


def wait_table(setup, table, what):
    """The tuple (starts, leads) of all waits of a kind.

    starts lists ((standing, index), wait) for the beats, of those that are met, behind which one waits
    on; leads is a dict with the list of (index, wait) for each wait that can come.
    """
    coming = comers_of(setup)
    starts = []
    for standing, beats in table.items():
        for index, beat in enumerate(beats):
            wait = first_wait(setup, standing, coming[index], beat[0], what)
            if wait is not None:
                starts.append(((standing, index), wait))
    leads = {}
    found = [wait for _, wait in starts]
    while found:
        wait = found.pop()
        if wait not in leads:
            further = [(index, next_wait(wait, beat, what)) for index, beat in enumerate(table[wait[0]])]
            leads[wait] = [step for step in further if step[1] is not None]
            found.extend([after for _, after in leads[wait]])
    return (starts, leads)


def endless_waits(leads):
    """The dict of the waits that can go on for ever, with the list of (index, wait) of how they do."""
    while True:
        kept = {
            wait: [step for step in steps if step[1] in leads]
            for wait, steps in leads.items()
        }
        kept = {wait: steps for wait, steps in kept.items() if steps}
        if len(kept) == len(leads):
            return kept
        leads = kept


def longest_stay(setup, table, what):
    """The most beats at whose ends one of a kind can wait, None if there is no greatest number."""
    starts, leads = wait_table(setup, table, what)
    endless = endless_waits(leads)
    layer = {wait: True for _, wait in starts}
    if any([wait in endless for wait in layer]):
        return None
    count = 0
    while layer:
        count += 1
        layer = {after: True for wait in layer for _, after in leads[wait]}
    return count


def endless_start(setup, table, what):
    """The tuple (endless, start): the waits that can go on for ever, and how one of them begins.

    None if none does.
    """
    starts, leads = wait_table(setup, table, what)
    endless = endless_waits(leads)
    starts = [start for start in starts if start[1] in endless]
    return (endless, starts[0]) if starts else None


def endless_ring(table, endless, start):
    """The tuple (ahead, round, place) of lists of indexes by which one waits for ever from a first wait on."""
    (standing, index), wait = start
    arrival = walk_back(steps_of(table, NOBODY), standing)
    walk = []
    places = {}
    while wait not in places:
        places[wait] = len(walk)
        step, wait = endless[wait][0]
        walk.append(step)
    ahead = arrival + [index] + walk[:places[wait]]
    return (ahead, walk[places[wait]:], len(arrival))


def ring_is_endless(setup, table, what, thing):
    """Whether any object is (ahead, round, place) by which one of a kind waits for ever."""
    if not (isinstance(thing, tuple) and len(thing) == 3):
        return False
    ahead, again, place = thing
    if not (is_row_of(setup, ahead, LONGEST_RING_ROW) and is_row_of(setup, again, LONGEST_RING_ROW)):
        return False
    if len(again) == 0 or not is_whole_in(place, 0, len(ahead) - 1):
        return False
    indexes = {comers: index for index, comers in enumerate(comers_of(setup))}
    standing = NOBODY
    for comers in ahead[:place]:
        standing = table[standing][indexes[comers]][0]
    arrival = table[standing][indexes[ahead[place]]]
    wait = first_wait(setup, standing, ahead[place], arrival[0], what)
    wait = wait_after(table, wait, [indexes[comers] for comers in ahead[place + 1:]], what)
    return wait is not None and wait_after(table, wait, [indexes[comers] for comers in again], what) == wait


def wait_after(table, wait, indexes, what):
    """The wait after further beats, None for one that sits at one of them, or that was none."""
    for index in indexes:
        if wait is None:
            return None
        wait = next_wait(wait, table[wait[0]][index], what)
    return wait
