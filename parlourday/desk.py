"""The desk: a parlour that is led by rows of text, and answers with texts."""

from parlourday.best import best_mean
from parlourday.days import day_cost
from parlourday.errors import BadCommand, BadText
from parlourday.halves import halves, safe
from parlourday.live import Parlour
from parlourday.longrun import long_mean
from parlourday.reading import comers_in, is_digit
from parlourday.setups import is_deaf
from parlourday.texts import (
    read_house, read_seats, read_setup, read_tubs, show_bill, show_comers, show_house, show_seats, show_tubs, spaced,
)

SETUP_AT_FIRST = (2, (1, 2), (1, 1), (1, 1), (2,), 2, (1, 1, 2, 1))
DONE = "ok"
WITH_TEXT = ("setup", "house", "seats", "tubs")
WITH_WORD = ("beat", "mean")
WITH_DIGIT = ("day", "ahead")
ALONE = ("close", "undo", "line", "tubs", "halves", "best", "safe", "totals", "show")


def command_of(row):
    """The tuple (word, rest) of any object that is a row of a form, rest None for a word alone; else BadCommand."""
    if not isinstance(row, str):
        raise BadCommand("a row is a text")
    word, blank, rest = row.partition(" ")
    if blank == "":
        right = word in ALONE
    elif word in WITH_WORD:
        right = rest != "" and " " not in rest
    elif word in WITH_DIGIT:
        right = is_digit(rest, 0, 9)
    else:
        right = word in WITH_TEXT
    if not right:
        raise BadCommand("the row is none of those that a desk answers")
    return (word, None if blank == "" else rest)


def fraction_text(fraction):
    """The text of a fraction."""
    above, below = fraction
    return f"{above}/{below}"


def do_seats(parlour, rest):
    """Exchange the seat rule."""
    parlour.change_seats(read_seats(rest))
    return DONE


def do_tubs(parlour, rest):
    """Exchange the tub rule."""
    parlour.change_tubs(read_tubs(rest))
    return DONE


def do_beat(parlour, rest):
    """Let comers come: the bill's text."""
    setup, _ = parlour.begun()
    comers = comers_in(setup, rest)
    if comers is None:
        raise BadText(0)
    groups, singles = comers
    return show_bill(parlour.beat(groups, singles))


def do_close(parlour, rest):
    """End the day: how many are away, and what melts."""
    return spaced(parlour.close())


def do_undo(parlour, rest):
    """Take the last deed back."""
    parlour.undo()
    return DONE


def tell_line(parlour, rest):
    """Who waits."""
    line, singles, _, _ = parlour.standing()
    groups = spaced(line) if line else "nobody"
    return f"{groups} + {singles}"


def tell_tubs(parlour, rest):
    """The tubs that are open."""
    _, _, tubs, _ = parlour.standing()
    return spaced([f"{age}:{portions}" for age, portions in tubs]) if tubs else "none"


def tell_mean(parlour, rest):
    """The greatest mean of a word."""
    setup, _ = parlour.begun()
    return fraction_text(long_mean(setup, parlour.rule(), rest))


def tell_halves(parlour, rest):
    """The means of the halves and of the house, if both halves are deaf."""
    setup, _ = parlour.begun()
    if not all([is_deaf(half) for half in parlour.rule()]):
        return "tied"
    return spaced([fraction_text(mean) for mean in halves(setup, parlour.rule())])


def tell_best(parlour, rest):
    """What the best way holds."""
    setup, _ = parlour.begun()
    return fraction_text(best_mean(setup))


def tell_day(parlour, rest):
    """What a day of so many beats costs at most."""
    setup, _ = parlour.begun()
    return f"{day_cost(setup, parlour.rule(), int(rest))}"


def tell_safe(parlour, rest):
    """Whether nobody is ever unserved, or behind how many beats somebody can be."""
    setup, _ = parlour.begun()
    row = safe(setup, parlour.rule())
    return "yes" if row is None else f"{len(row)}"


def tell_totals(parlour, rest):
    """The seven totals of the evening."""
    return spaced(parlour.totals())


def tell_ahead(parlour, rest):
    """What the next beats cost at most."""
    most = parlour.ahead("cost", int(rest))
    return f"{most}"


def tell_show(parlour, rest):
    """The setup and the present rule."""
    setup, _ = parlour.begun()
    return show_house(setup, parlour.rule())


ANSWERS = {
    "seats": do_seats, "tubs": do_tubs, "beat": do_beat, "close": do_close, "undo": do_undo, "line": tell_line,
    "mean": tell_mean, "halves": tell_halves, "best": tell_best, "day": tell_day, "safe": tell_safe,
    "totals": tell_totals, "ahead": tell_ahead, "show": tell_show,
}


class Desk:
    """A desk holds a parlour, which the rows that it answers change."""

    def __init__(self):
        self._held = Parlour(SETUP_AT_FIRST)

    def parlour(self):
        """A copy of the parlour."""
        return self._held.copy()

    def say(self, row):
        """The answer to a row."""
        word, rest = command_of(row)
        if word == "setup":
            self._held = Parlour(read_setup(rest))
            return DONE
        if word == "house":
            setup, rule = read_house(rest)
            self._held = Parlour(setup, rule)
            return DONE
        if row == "tubs":
            return tell_tubs(self._held, rest)
        answer = ANSWERS[word]
        return answer(self._held, rest)


def rows_for(parlour):
    """The list of the rows after which a desk holds an equal parlour."""
    setup, rule = parlour.begun()
    rows = [f"house {show_house(setup, rule)}"]
    for what, thing in parlour.deeds():
        if what == "beat":
            rows.append(f"beat {show_comers(thing)}")
        elif what == "seats":
            rows.append(f"seats {show_seats(thing)}")
        elif what == "tubs":
            rows.append(f"tubs {show_tubs(thing)}")
        else:
            rows.append(what)
    return rows
