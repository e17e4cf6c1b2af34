"""The tubs against those who ask: what any way of opening them can hold, or can do if all is known.

A place is a tuple (tubs, asked): the tubs as they are in a beat; asked is None between two beats.
"""

from parlourday.cellar import end_beat, tub_deeds, tubs_cost, with_tub
from parlourday.contests import contest_from, contest_mean, held_entries

EMPTY = ((), None)


def place_moves(setup, place):
    """The list of the moves (weight, length, target) of a place, those of the house in the order of its deeds."""
    tubs, asked = place
    if asked is None:
        return [(0, 0, (tubs, coming)) for coming in range(setup[0] + 1)]
    return [deed_move(setup, place, deed) for deed in tub_deeds(tubs)]


def deed_move(setup, place, deed):
    """The move (weight, length, target) of a deed at a place in a beat."""
    tubs, asked = place
    if deed != "rest":
        return (0, 0, (with_tub(setup, tubs, deed), asked))
    left, unserved, melted = end_beat(setup, tubs, asked)
    return (tubs_cost(setup, unserved, melted), 1, (left, None))


def alone_contest(setup):
    """The contest (places, owned, moves) of the tubs with those who ask."""
    return contest_from(EMPTY, lambda place: (place[1] is not None, place_moves(setup, place)))


def alone_mean(contest):
    """The least fraction to which some way can hold the tubs' cost."""
    _, owned, moves = contest
    dearest = max([weight for options in moves for weight, _, _ in options])
    return contest_mean(owned, moves, 0, -1, dearest)


def alone_entries(setup):
    """The ascending list of the entries (tubs, asked, deed, number) of a way that holds the cost to alone_mean."""
    contest = alone_contest(setup)
    return sorted([
        place + (tub_deeds(place[0])[index], need)
        for place, index, need in held_entries(contest, alone_mean(contest))
    ])


def entry_holds(setup, fraction, numbers, place, deed):
    """Whether the number of a place is enough for a deed, by the numbers of what it leads to."""
    above, below = fraction
    weight, length, target = deed_move(setup, place, deed)
    gain = below * weight - above * length
    behind = [target] if length == 0 else [(target[0], coming) for coming in range(setup[0] + 1)]
    return all([further in numbers and numbers[place] >= gain + numbers[further] for further in behind])


def all_openings(setup, tubs):
    """The ascending list of all tuples of what can be opened at a beat that begins with these tubs."""
    kinds = setup[4]
    found = [()]
    if len(tubs) < 2:
        found = found + [(kind,) for kind in kinds]
    if len(tubs) < 1:
        found = found + [(kind, other) for kind in kinds for other in kinds]
    return sorted(found)


def opening_table(setup):
    """The dict of all tubs between beats, with what each asking and each opening lead to.

    For each number that ask it has the list of (opened, tubs after, cost), ascending by opened.
    """
    table = {}
    found = [()]
    while found:
        tubs = found.pop()
        if tubs not in table:
            table[tubs] = [opening_beats(setup, tubs, asked) for asked in range(setup[0] + 1)]
            found.extend([after for beats in table[tubs] for _, after, _ in beats])
    return table


def opening_beats(setup, tubs, asked):
    """The list of (opened, tubs after, cost) of all that can be opened at a beat."""
    beats = []
    for opened in all_openings(setup, tubs):
        left, unserved, melted = end_beat(setup, tubs + tuple([(0, kind) for kind in opened]), asked)
        beats.append((opened, left, tubs_cost(setup, unserved, melted)))
    return beats


def known_costs(table, asking):
    """For 0 to all beats of an asking, from the last one back, the dict of the least costs of the rest by tubs."""
    lines = [{tubs: 0 for tubs in table}]
    for asked in asking[::-1]:
        ahead = lines[-1]
        lines.append({
            tubs: min([cost + ahead[after] for _, after, cost in beats[asked]])
            for tubs, beats in table.items()
        })
    return lines


def first_openings(table, asking):
    """The first list of what is opened at each beat of an asking by which it costs least."""
    lines = known_costs(table, asking)
    tubs = ()
    found = []
    for place, asked in enumerate(asking):
        ahead = lines[len(asking) - place - 1]
        least = lines[len(asking) - place][tubs]
        fits = [(opened, after) for opened, after, cost in table[tubs][asked] if cost + ahead[after] == least]
        found.append(fits[0][0])
        tubs = fits[0][1]
    return found
