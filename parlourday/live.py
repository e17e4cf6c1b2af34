"""The live parlour: an evening that goes on beat by beat, with rules that change and deeds that are taken back."""

from parlourday.cellar import portions_open, tubs_cost
from parlourday.errors import BadComers, BadPlace, BadRules, Full, NothingToUndo
from parlourday.future import ahead_walk
from parlourday.house import (
    EMPTY_HOUSE, bill_count, bill_totals, check_rule, check_what, house_beat, is_rule, run_house,
)
from parlourday.plain import check_count, is_whole_in
from parlourday.setups import check_row, check_seats, check_setup, is_comers, row_at
from parlourday.sights import board_of
from parlourday.tubs import check_tubs
from parlourday.views import away_cost, what_is_left

MOST_DEEDS = 100
MOST_AHEAD = 6
MOST_RULES = 8
LONGEST_TRIED = 20


class Parlour:
    """A setup, a rule, and the deeds of an evening that are in force.

    A deed is a tuple ("beat", comers), ("seats", rule), ("tubs", rule) or ("close", None).
    """

    def __init__(self, setup, rule=((), ())):
        check_setup(setup)
        check_rule(rule)
        self._setup = setup
        self._first = rule
        self._begin()

    def __len__(self):
        return len(self._bills)

    def __getitem__(self, at):
        if not is_whole_in(at, 0, len(self._bills) - 1):
            raise BadPlace("a place is the number of a beat, from 0 on")
        return self._bills[at]

    def __iter__(self):
        return iter(self._bills)

    def __eq__(self, other):
        return (
            isinstance(other, Parlour) and self._setup == other._setup and self._first == other._first
            and self._deeds == other._deeds
        )

    @property
    def waiting(self):
        """The tuple of how many groups, and how many singles, wait."""
        return (len(self._standing[0]), self._standing[1])

    @property
    def portions(self):
        """How many portions are open."""
        return portions_open(self._standing[2])

    def beat(self, groups, singles):
        """Let comers come: the bill of the beat."""
        if not is_comers(self._setup, (groups, singles)):
            raise BadComers("comers are a tuple of sizes and a number of singles, as the setup tells")
        self._take(("beat", (groups, singles)))
        return self._bills[-1]

    def change_seats(self, rule):
        """Exchange the seat rule for the beats that come."""
        check_seats(rule)
        self._take(("seats", rule))

    def change_tubs(self, rule):
        """Exchange the tub rule for the beats that come."""
        check_tubs(rule)
        self._take(("tubs", rule))

    def close(self):
        """End the day: the tuple of how many are away, and how many portions melt."""
        self._take(("close", None))
        return self._closings[-1][1:]

    def undo(self):
        """Take back the last deed that is in force."""
        if not self._deeds:
            raise NothingToUndo("no deed is in force")
        kept = self._deeds[:-1]
        self._begin()
        for deed in kept:
            self.go_on(deed)

    def row(self):
        """The list of the comers of all beats."""
        return list(self._row)

    def bills(self):
        """The list of the bills of all beats."""
        return list(self._bills)

    def closings(self):
        """The list of the tuples (beats, away, melted) of all ends of days, beats being those ahead of it."""
        return list(self._closings)

    def standing(self):
        """The standing of the house."""
        return self._standing

    def rule(self):
        """The present rule."""
        return self._rule

    def totals(self):
        """The tuple of the seven sums of the bills and closings together."""
        return evening_totals(self._setup, self._bills, self._closings)

    def copy(self):
        """An equal parlour that goes its own way."""
        return evening(self._setup, self._first, self._deeds)

    def begun(self):
        """The tuple of the setup and the rule at first."""
        return (self._setup, self._first)

    def deeds(self):
        """The list of the deeds in force."""
        return list(self._deeds)

    def boards(self):
        """The list of the boards after all beats."""
        return list(self._boards)

    def totals_by(self, rule):
        """The totals of the evening with the same comers and closings by another rule, without changes."""
        check_rule(rule)
        return evening(self._setup, rule, [deed for deed in self._deeds if deed[0] in ("beat", "close")]).totals()

    def ahead(self, what, beats):
        """The greatest sum of what is counted in so many next beats by the present rule, whatever the comers."""
        most, _ = self._ahead(what, beats)
        return most

    def ahead_row(self, what, beats):
        """The first row of so many next beats, as lists compare, with the greatest sum of what is counted."""
        _, walk = self._ahead(what, beats)
        return row_at(self._setup, walk)

    def try_rules(self, rules, row):
        """The ascending list of the places of those rules by which a row costs least from now on."""
        if not is_rules(rules):
            raise BadRules("rules are a list of one to eight rules of the house")
        check_row(self._setup, row, LONGEST_TRIED)
        start = self._standing[:3] + ((0, 0),)
        costs = [cost_from(self._setup, rule, row, start) for rule in rules]
        return [place for place, cost in enumerate(costs) if cost == min(costs)]

    def _ahead(self, what, beats):
        """The tuple of the greatest sum in so many next beats, and the indexes of the first row with it."""
        check_what(what)
        check_count(beats, 0, MOST_AHEAD)
        return ahead_walk(self._setup, self._rule, self._standing, what, beats)

    def _begin(self):
        """Set all as it is ahead of the first deed."""
        self._rule = self._first
        self._standing = EMPTY_HOUSE
        self._row = []
        self._bills = []
        self._boards = []
        self._closings = []
        self._deeds = []

    def _take(self, deed):
        """Do a further deed, if not too many are in force."""
        if len(self._deeds) == MOST_DEEDS:
            raise Full("one hundred deeds are in force")
        self.go_on(deed)

    def go_on(self, deed):
        """Do what is known to be a right deed, which is in force then."""
        what, thing = deed
        if what == "beat":
            self._come(thing)
        elif what == "close":
            self._closings.append((len(self._bills),) + what_is_left(self._standing[:3]))
            self._standing = EMPTY_HOUSE
        else:
            self._rule = (thing, self._rule[1]) if what == "seats" else (self._rule[0], thing)
        self._deeds.append(deed)

    def _come(self, comers):
        """Let comers come to a beat."""
        self._standing, bill, _ = house_beat(self._setup, self._rule, self._standing, comers)
        self._row.append(comers)
        self._bills.append(bill)
        self._boards.append(board_of(self._standing))


def evening(setup, rule, deeds):
    """A parlour with these deeds in force."""
    parlour = Parlour(setup, rule)
    for deed in list(deeds):
        parlour.go_on(deed)
    return parlour


def evening_totals(setup, bills, closings):
    """The tuple of the seven sums of bills and closings together."""
    empty, away, unserved, melted, served, sat, cost = bill_totals(setup, bills)
    left = sum([gone for _, gone, _ in closings])
    lost = sum([portions for _, _, portions in closings])
    cost += away_cost(setup, left) + tubs_cost(setup, 0, lost)
    return (empty, away + left, unserved, melted + lost, served, sat, cost)


def is_rules(thing):
    """Whether any object is a list of one to eight rules of the house."""
    return isinstance(thing, list) and 1 <= len(thing) <= MOST_RULES and all([is_rule(rule) for rule in thing])


def cost_from(setup, rule, row, start):
    """The cost of a row by a rule from a standing on."""
    _, bills = run_house(setup, rule, row, start)
    return sum([bill_count(setup, "cost", bill) for bill in bills])
