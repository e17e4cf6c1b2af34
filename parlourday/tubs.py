"""The tubs alone: what deaf tub rules do, whatever is asked."""

from parlourday.cellar import CLOSED, tub_beat, tubs_cost
from parlourday.errors import BadTubs, BadWhat
from parlourday.plain import check_count
from parlourday.setups import DEAF, check_asking, check_deaf, check_setup, is_half
from parlourday.tables import first_beat, table_of, table_web

TUB_DEEDS = ("small", "great", "rest")
TUB_WORDS = ("served", "unserved", "melted", "cost")
MOST_OPEN_FOR = 4


def is_tubs(thing):
    """Whether any object is a tub rule."""
    return is_half(thing, TUB_DEEDS)


def check_tubs(thing):
    """Raise BadTubs for what is no tub rule."""
    if not is_tubs(thing):
        raise BadTubs("a tub rule is a tuple of rows (mood, asked, open, age, waiting, deed, after)")


def check_deaf_tubs(setup, tubs):
    """Raise BadSetup, BadTubs or NotDeaf for what is no setup, or no deaf tub rule."""
    check_setup(setup)
    check_tubs(tubs)
    check_deaf(tubs)


def tubs_table(setup, tubs):
    """The table of the beats (after, told, used) of a deaf tub rule, by how many ask."""
    askings = list(range(setup[0] + 1))
    return table_of(CLOSED, lambda standing: [tub_beat(setup, tubs, standing, asked, 0) for asked in askings])


def tubs_of(setup, tubs, asking):
    """The list of what the tubs tell of the beats of an asking: tuples (opened, served, unserved, melted)."""
    check_setup(setup)
    check_tubs(tubs)
    check_asking(setup, asking)
    check_deaf(tubs)
    _, told = run_tubs(setup, tubs, asking)
    return told


def tubs_after(setup, tubs, asking):
    """The standing of the tubs after an asking."""
    check_setup(setup)
    check_tubs(tubs)
    check_asking(setup, asking)
    check_deaf(tubs)
    standing, _ = run_tubs(setup, tubs, asking)
    return standing


def run_tubs(setup, tubs, asking):
    """The tuple (standing, told) of the standing after an asking and the list of what its beats tell."""
    standing = CLOSED
    told = []
    for asked in asking:
        standing, word, _ = tub_beat(setup, tubs, standing, asked, 0)
        told.append(word)
    return (standing, told)


def tubs_met(setup, tubs):
    """The ascending list of the standings after all askings."""
    check_deaf_tubs(setup, tubs)
    return list(tubs_table(setup, tubs))


def tubs_web(setup, tubs, what):
    """The web of the standings, with the weight of what is counted."""
    check_setup(setup)
    check_tubs(tubs)
    if what not in TUB_WORDS:
        raise BadWhat("of the tubs served, unserved, melted or cost is counted")
    check_deaf(tubs)
    return table_web(tubs_table(setup, tubs), lambda beat: tubs_count(setup, what, beat[1]))


def tubs_count(setup, what, told):
    """What is counted of what the tubs tell of a beat."""
    _, served, unserved, melted = told
    if what == "cost":
        return tubs_cost(setup, unserved, melted)
    if what == "served":
        return served
    return unserved if what == "unserved" else melted


def open_for(setup, deed, number):
    """The tub rule that opens tubs of a kind for those who ask, for so many of them at most."""
    check_setup(setup)
    if deed not in ("small", "great"):
        raise BadWhat("a tub is opened by small or great")
    check_count(number, 1, MOST_OPEN_FOR)
    return tuple([
        (0, (asked, 9), (0, asked - 1), (0, 9), DEAF, deed, 0)
        for asked in range(1, number + 1)
    ])


def never_short(setup, tubs):
    """None if nobody is ever unserved, else the first shortest asking in which somebody is."""
    check_deaf_tubs(setup, tubs)
    return first_beat(tubs_table(setup, tubs), CLOSED, lambda beat: beat[1][2] > 0)


def never_melts(setup, tubs):
    """None if no portion ever melts, else the first shortest asking in which one does."""
    check_deaf_tubs(setup, tubs)
    return first_beat(tubs_table(setup, tubs), CLOSED, lambda beat: beat[1][3] > 0)
