"""The tubs: how a tub rule opens them at a beat, and how their portions are eaten and melt."""

from parlourday.bench import fitting_row

CLOSED = ((), 0)
MOST_TUBS = 2
# The age that a row looks at while no tub is open.
NO_AGE = 9


def portions_open(tubs):
    """How many portions are open."""
    return sum([portions for _, portions in tubs])


def tub_deeds(tubs):
    """The tuple of the deeds that can be done with these tubs open."""
    return ("small", "great", "rest") if len(tubs) < MOST_TUBS else ("rest",)


def with_tub(setup, tubs, deed):
    """The tubs, one more of the lesser or the greater kind opened."""
    return tubs + ((0, setup[4][0] if deed == "small" else setup[4][-1]),)


def open_tubs(setup, rule, standing, asked, waiting):
    """The tuple (standing, opened, used) once the tubs rest: what the new ones hold, the rows carried out."""
    tubs, mood = standing
    opened = []
    used = []
    while True:
        looks = (asked, portions_open(tubs), tubs[0][0] if tubs else NO_AGE, waiting)
        index = fitting_row(rule, mood, looks, tub_deeds(tubs))
        if index is None:
            break
        used.append(index)
        mood = rule[index][6]
        deed = rule[index][5]
        if deed == "rest":
            break
        tubs = with_tub(setup, tubs, deed)
        opened.append(tubs[-1][1])
    return ((tubs, mood), tuple(opened), used)


def eaten_of(tubs, asked):
    """The list of how many portions of each tub are eaten if so many ask."""
    eaten = []
    for _, portions in tubs:
        eaten.append(min(portions, asked - sum(eaten)))
    return eaten


def end_beat(setup, tubs, asked):
    """The tuple (tubs, unserved, melted) behind a beat in which the tubs came to rest and so many asked."""
    eaten = eaten_of(tubs, asked)
    older = [
        (age + 1, portions - gone)
        for (age, portions), gone in zip(tubs, eaten) if portions > gone
    ]
    melted = sum([portions for age, portions in older if age == setup[5]])
    return (tuple([tub for tub in older if tub[0] < setup[5]]), asked - sum(eaten), melted)


def tub_beat(setup, rule, standing, asked, waiting):
    """The tuple (standing, told, used) of a beat: the standing after it, and what the tubs tell of it."""
    (tubs, mood), opened, used = open_tubs(setup, rule, standing, asked, waiting)
    left, unserved, melted = end_beat(setup, tubs, asked)
    return ((left, mood), (opened, asked - unserved, unserved, melted), used)


def tubs_cost(setup, unserved, melted):
    """What those without a portion, and melted portions, cost."""
    return setup[6][1] * melted + setup[6][2] * unserved
